"""What lies in the nodes of a JSON text: [3.1]."""

from plainglass.errors import NoNode
from plainglass.strings import meant


# The numbers of a row's values, or of the names of fields.
def inner(tree, i):
    found = []
    if tree[i][0] in ("row", "fields"):
        k = i + 1
        while k < tree[i][3]:
            found.append(k)
            k = tree[k][3]
    return found


def many(tree, i):
    return len(inner(tree, i))


def item(tree, i, k):
    found = inner(tree, i)
    if not 0 <= k < len(found):
        raise NoNode("no value in this place")
    if tree[i][0] == "fields":
        return found[k] + 1
    return found[k]


def member(row, tree, i, name):
    if tree[i][0] == "fields":
        for k in inner(tree, i):
            if meant(row, tree, k) == list(name):
                return k + 1
    raise NoNode("no member of this name")
