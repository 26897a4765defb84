"""Deeds that lead from one value to another: [7.3]."""

from plainglass.patches import size
from plainglass.values import alike, kind_of


# The deeds touch values of different names, so each order of them leads to the same. Those that make the value
# smaller come first: no value on the way is larger than the larger one of the two.
def between(one, other):
    found = []
    # Pairs of values that both have at the same parts, with these.
    pending = [((), one, other)]
    at = 0
    while at < len(pending):
        parts = pending[at][0]
        old = pending[at][1]
        new = pending[at][2]
        if kind_of(old) == "fields" and kind_of(new) == "fields":
            found.extend(member_deeds(parts, dict(old[1]), dict(new[1])))
            pending.extend(shared(parts, old, dict(new[1])))
        elif not alike(old, new):
            found.append((size(new) - size(old), ("replace", parts, new)))
        at += 1
    return [pair[1] for pair in sorted(found, key=lambda pair: pair[0])]


# The deeds for members that one of two fields has and the other has not, each with how much larger it makes the
# value.
def member_deeds(parts, old, new):
    gone = [(-size(old[name]), ("remove", parts + (name,))) for name in old if name not in new]
    come = [(size(new[name]), ("add", parts + (name,), new[name])) for name in new if name not in old]
    return gone + come


# The members that two fields share: their parts and both values.
def shared(parts, old, new):
    return [(parts + (pair[0],), pair[1], new[pair[0]]) for pair in old[1] if pair[0] in new]
