"""Pointers, and where their parts lead: [5.1] and [5.2]."""

from plainglass.asking import item, member
from plainglass.eights import is_point
from plainglass.errors import NoNode, NoPointer, NotThere
from plainglass.numbers import counted
from plainglass.signs import NOUGHT, SLASH, TILDE, is_figure
from plainglass.values import inner_values, kind_of

# What stands behind a tilde, and the character that both together mean.
TILDED = {48: 126, 49: 47}


def parts(numbers):
    found = []
    behind_tilde = False
    for number in numbers:
        if not is_point(number):
            raise NoPointer("a number that is no character's")
        if behind_tilde:
            if number not in TILDED:
                raise NoPointer("a tilde ahead of neither 0 nor 1")
            found[-1].append(TILDED[number])
            behind_tilde = False
        elif number == SLASH:
            found.append([])
        elif not found:
            raise NoPointer("no slash ahead")
        elif number == TILDE:
            behind_tilde = True
        else:
            found[-1].append(number)
    if behind_tilde:
        raise NoPointer("a tilde at the end")
    return [tuple(part) for part in found]


def pointer(names):
    found = []
    for part in names:
        found.append(SLASH)
        for number in part:
            found.extend(tilded(number))
    return found


def tilded(number):
    if number == TILDE:
        return [TILDE, NOUGHT]
    if number == SLASH:
        return [TILDE, NOUGHT + 1]
    return [number]


# The place in a row that a part writes; None where it writes none.
def place_of(part):
    if not part or not all([is_figure(sign) for sign in part]):
        return None
    if part[0] == NOUGHT and len(part) > 1:
        return None
    return counted(part)


# The place among what lies right in a value to which a part leads.
def place_in(thing, part):
    kind = kind_of(thing)
    if kind == "fields":
        for k, pair in enumerate(thing[1]):
            if pair[0] == part:
                return k
    if kind == "row":
        place = place_of(part)
        if place is not None and place < len(thing[1]):
            return place
    raise NotThere("a part that leads to nothing")


def there(thing, names):
    for part in names:
        thing = inner_values(thing)[place_in(thing, part)]
    return thing


def node_there(row, tree, names):
    i = 0
    for part in names:
        i = node_behind(row, tree, i, part)
    return i


# The number of the node to which a part leads from a node on.
def node_behind(row, tree, i, part):
    place = place_of(part)
    try:
        if tree[i][0] == "fields":
            return member(row, tree, i, part)
        if tree[i][0] == "row" and place is not None:
            return item(tree, i, place)
    except NoNode:
        raise NotThere("a part that leads to nothing") from None
    raise NotThere("a part that leads to nothing")
