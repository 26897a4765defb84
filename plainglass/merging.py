"""Values merged, and merges found: [7.4] and [7.5]."""

from plainglass.errors import NoMerge
from plainglass.values import alike, kind_of


def merged(one, other):
    if kind_of(other) != "fields":
        return other
    members = members_of(one)
    for name, given in other[1]:
        if given is None:
            members.pop(name, None)
        else:
            members[name] = merged(members.get(name), given)
    return ("fields", tuple(members.items()))


# The members of clean fields by their names, in their order; none of other values.
def members_of(thing):
    return dict(thing[1]) if kind_of(thing) == "fields" else {}


def merge_for(one, other):
    if kind_of(other) != "fields":
        return other
    old = members_of(one)
    new = members_of(other)
    found = [(name, None) for name in old if name not in new]
    for name in new:
        if name not in old or not alike(old[name], new[name]):
            found.append((name, merge_for_member(old.get(name), new[name])))
    return ("fields", tuple(found))


# A merge for the values of a member; None does as the old one's where there is no old member.
def merge_for_member(old, new):
    # In a merge None takes the member away, so nothing makes a member None.
    if new is None:
        raise NoMerge("a member None that is not there already")
    return merge_for(old, new)
