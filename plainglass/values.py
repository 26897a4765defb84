"""Values: what JSON texts write, and how they are compared: [4.1] and [4.2]."""

from plainglass.asking import inner
from plainglass.eights import is_point
from plainglass.nodes import nodes
from plainglass.numbers import exact
from plainglass.strings import meant
from plainglass.walking import MOST_BRACKETS


def value(row):
    tree = nodes(row)
    made = [None] * len(tree)
    # From the last node on: what lies in a node is made ahead of it.
    for i in range(len(tree) - 1, -1, -1):
        made[i] = node_value(row, tree, i, made)
    return made[0]


# The value of one node, those of the nodes behind it being made; None of a name, which has none of its own.
def node_value(row, tree, i, made):
    kind = tree[i][0]
    if kind in ("true", "false"):
        return kind == "true"
    if kind == "number":
        pair = exact(row, tree, i)
        return ("number", pair[0], pair[1])
    if kind == "text":
        return ("text", tuple(meant(row, tree, i)))
    if kind == "row":
        return ("row", tuple([made[k] for k in inner(tree, i)]))
    if kind == "fields":
        return ("fields", tuple([(tuple(meant(row, tree, k)), made[k + 1]) for k in inner(tree, i)]))
    return None


# The kind of a value, as a node of it would tell it.
def kind_of(thing):
    if thing is None:
        return "null"
    if thing is True:
        return "true"
    if thing is False:
        return "false"
    return thing[0]


# The values that lie right in a value, in their order.
def inner_values(thing):
    kind = kind_of(thing)
    if kind == "row":
        return list(thing[1])
    if kind == "fields":
        return [pair[1] for pair in thing[1]]
    return []


# A value and each value in it, once for each place.
def every_value(thing):
    found = [thing]
    at = 0
    while at < len(found):
        found.extend(inner_values(found[at]))
        at += 1
    return found


def is_value(thing):
    # Things that are still to be asked, each with how many of row and fields lie round it.
    pending = [(thing, 0)]
    while pending:
        pair = pending.pop()
        if not has_form(pair[0]):
            return False
        if kind_of(pair[0]) in ("row", "fields") and pair[1] == MOST_BRACKETS:
            return False
        pending.extend([(within, pair[1] + 1) for within in inner_values(pair[0])])
    return True


# Whether any thing has the form of a value, whatever stands in it where values should stand.
def has_form(thing):
    if thing is None or thing is True or thing is False:
        return True
    if not isinstance(thing, tuple) or len(thing) < 2:
        return False
    if thing[0] == "number":
        return len(thing) == 3 and is_lowered(thing[1], thing[2])
    if len(thing) != 2 or not isinstance(thing[1], tuple):
        return False
    if thing[0] == "text":
        return are_characters(thing[1])
    if thing[0] == "fields":
        return all([has_member_form(pair) for pair in thing[1]])
    return thing[0] == "row"


def has_member_form(thing):
    return isinstance(thing, tuple) and len(thing) == 2 and are_characters(thing[0])


def are_characters(thing):
    return isinstance(thing, tuple) and all([is_whole(point) and is_point(point) for point in thing])


def is_whole(thing):
    return isinstance(thing, int) and not isinstance(thing, bool)


# Whether two things are the pair of a worth.
def is_lowered(number, power):
    if not is_whole(number) or not is_whole(power):
        return False
    return number % 10 != 0 or (number == 0 and power == 0)


def is_clean(thing):
    return all([has_names_once(within) for within in every_value(thing)])


# Whether a value, if it is fields, has each name once.
def has_names_once(thing):
    if kind_of(thing) != "fields":
        return True
    return len(set([pair[0] for pair in thing[1]])) == len(thing[1])


def alike(one, other):
    pending = [(one, other)]
    while pending:
        pair = pending.pop()
        if not agree(pair[0], pair[1]):
            return False
        pending.extend(inner_pairs(pair[0], pair[1]))
    return True


# Whether two clean values are alike, whatever the values that lie in them.
def agree(one, other):
    kind = kind_of(one)
    if kind != kind_of(other):
        return False
    if kind == "row":
        return len(one[1]) == len(other[1])
    if kind == "fields":
        return sorted([pair[0] for pair in one[1]]) == sorted([pair[0] for pair in other[1]])
    return one == other


# The values that lie right in two values that agree, those of one place or one name together.
def inner_pairs(one, other):
    if kind_of(one) != "fields":
        return list(zip(inner_values(one), inner_values(other)))
    others = dict(other[1])
    return [(pair[1], others[pair[0]]) for pair in one[1]]
