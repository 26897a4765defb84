"""Deeds done on a value: [7.1] and [7.2]."""

from plainglass.errors import NoDeed, NotThere
from plainglass.pointers import place_in, place_of, there
from plainglass.signs import MINUS
from plainglass.values import alike, every_value, inner_values, is_value, kind_of

MOST_VALUES = 300


def patched(thing, deeds):
    for place, deed in enumerate(deeds):
        try:
            thing = done(thing, deed)
        except NotThere:
            raise NoDeed(place) from None
        # Made of values, it is none only where too many brackets lie within one another.
        if size(thing) > MOST_VALUES or not is_value(thing):
            raise NoDeed(place)
    return thing


def size(thing):
    return len(every_value(thing))


# The value behind one deed; a deed that does not fit is refused with NotThere.
def done(thing, deed):
    if deed[0] == "add":
        return added(thing, deed[1], deed[2])
    if deed[0] == "remove":
        return removed(thing, deed[1])
    if deed[0] == "replace":
        return replaced(thing, deed[1], deed[2])
    if deed[0] == "move":
        return moved(thing, deed[1], deed[2])
    if deed[0] == "copy":
        return added(thing, deed[2], there(thing, deed[1]))
    if not alike(there(thing, deed[1]), deed[2]):
        raise NotThere("another value than the one tested for")
    return thing


def added(thing, parts, new):
    if not parts:
        return new
    around = there(thing, parts[:-1])
    return replaced(thing, parts[:-1], with_added(around, parts[-1], new))


# A row or fields with a value more, or with another value in the place of a member's.
def with_added(around, part, new):
    if kind_of(around) == "fields":
        members = dict(around[1])
        members[part] = new
        return ("fields", tuple(members.items()))
    if kind_of(around) == "row":
        place = len(around[1]) if part == (MINUS,) else place_of(part)
        if place is not None and place <= len(around[1]):
            return ("row", around[1][:place] + (new,) + around[1][place:])
    raise NotThere("no place for a value")


def removed(thing, parts):
    if not parts:
        raise NotThere("no parts: the whole is not removed")
    around = there(thing, parts[:-1])
    place = place_in(around, parts[-1])
    return replaced(thing, parts[:-1], (around[0], around[1][:place] + around[1][place + 1:]))


def replaced(thing, parts, new):
    if not parts:
        return new
    place = place_in(thing, parts[0])
    within = replaced(inner_values(thing)[place], parts[1:], new)
    if thing[0] == "fields":
        within = (thing[1][place][0], within)
    return (thing[0], thing[1][:place] + (within,) + thing[1][place + 1:])


def moved(thing, parts, goal):
    if len(goal) > len(parts) and goal[:len(parts)] == parts:
        raise NotThere("a value is not moved into itself")
    return added(removed(thing, parts), goal, there(thing, parts))
