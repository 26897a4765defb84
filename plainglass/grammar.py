"""Whether a row is a JSON text, and where it is none, its fault: [2.1] to [2.3]."""

from plainglass.errors import Fault
from plainglass.walking import Walk


# None for a JSON text, else the fault.
def fault(row):
    walk = Walk()
    at = walk.take(row)
    if at == len(row) and walk.is_whole():
        return None
    return at


# Refuses a row that is no JSON text.
def refuse_fault(row):
    at = fault(row)
    if at is not None:
        raise Fault(at)
