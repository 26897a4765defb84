"""JSON texts changed in one place, every other byte staying as it was: [6.1] to [6.3]."""

from plainglass.asking import inner
from plainglass.errors import NotThere, TooDeep
from plainglass.grammar import fault, refuse_fault
from plainglass.nodes import nodes
from plainglass.pointers import node_there
from plainglass.signs import COLON, COMMA
from plainglass.strings import told


def put(row, names, other):
    tree = nodes(row)
    node = tree[node_there(row, tree, names)]
    refuse_fault(other)
    return swapped(row, node[1], node[2], other)


def cut(row, names):
    tree = nodes(row)
    if not names:
        raise NotThere("no parts: the whole text is not cut")
    i = node_there(row, tree, names)
    around = node_there(row, tree, names[:-1])
    spans = inner_spans(tree, around)
    # A value ends where its span ends, a member's value too.
    k = [span[1] for span in spans].index(tree[i][2])
    begin = spans[k][0]
    end = spans[k][1]
    if k + 1 < len(spans):
        end = spans[k + 1][0]
    elif k > 0:
        begin = spans[k - 1][1]
    return swapped(row, begin, end, [])


def add(row, names, other):
    tree = nodes(row)
    i = node_of_kind(row, tree, names, "row")
    refuse_fault(other)
    return added(row, tree, i, other)


def add_member(row, names, name, other):
    tree = nodes(row)
    i = node_of_kind(row, tree, names, "fields")
    refuse_fault(other)
    return added(row, tree, i, told(name) + [COLON] + other)


def node_of_kind(row, tree, names, kind):
    i = node_there(row, tree, names)
    if tree[i][0] != kind:
        raise NotThere("a node of another kind")
    return i


# Bytes put behind the last value or member of a row or fields, or right behind the bracket of empty ones.
def added(row, tree, i, more):
    spans = inner_spans(tree, i)
    if spans:
        return swapped(row, spans[-1][1], spans[-1][1], [COMMA] + more)
    return swapped(row, tree[i][1] + 1, tree[i][1] + 1, more)


# Where each value or member of a row or fields begins and where it ends.
def inner_spans(tree, i):
    if tree[i][0] == "fields":
        return [(tree[k][1], tree[k + 1][2]) for k in inner(tree, i)]
    return [(tree[k][1], tree[k][2]) for k in inner(tree, i)]


# A row with other bytes in the place of those from begin to ahead of end.
def swapped(row, begin, end, more):
    changed = row[:begin] + more + row[end:]
    # Texts are put where texts may stand, so nothing but too many brackets can be wrong.
    if fault(changed) is not None:
        raise TooDeep("more brackets begun and not ended than may be")
    return changed
