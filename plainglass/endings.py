"""The ending of a row that is the beginning of some JSON text: [2.4]."""

from plainglass.errors import Fault
from plainglass.walking import Walk

# What ends each item of a walk in the fewest bytes, and the least ones of these; those that are not here
# may stand for no byte at all. Capital figures are less than small ones.
SHORTEST = {
    "value": (48,),
    "lead": (48,),
    "text": (34,),
    "name": (34, 34),
    "escape": (34,),
    "code": (48, 48, 48, 48),
    "code d": (48, 48, 48),
    "hex": (48,),
    "hex d": (68,),
    "hex c to f": (67,),
    "row": (93,),
    "more row": (93,),
    "fields": (125,),
    "more fields": (125,),
}


# The items to come are ended one by one: how one is ended leaves the others as they are.
def ending(row):
    walk = Walk()
    at = walk.take(row)
    if at < len(row):
        raise Fault(at)
    rest = []
    for item in walk.coming[::-1]:
        rest.extend(shortest(item))
    return rest


def shortest(item):
    if isinstance(item, tuple):
        return (item[0],)
    return SHORTEST.get(item, ())
