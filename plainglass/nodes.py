"""The nodes of a JSON text: [3.1]."""

from plainglass.grammar import refuse_fault
from plainglass.signs import BACKSLASH, COLON, COMMA, FIELDS_BEGIN, FIELDS_END, QUOTE, ROW_BEGIN, ROW_END, is_white

# The kinds of values by their first bytes; all others are numbers.
KINDS = {34: "text", 91: "row", 102: "false", 110: "null", 116: "true", 123: "fields"}


def nodes(row):
    refuse_fault(row)
    tree = []
    # The numbers of the rows and fields that are begun and not ended.
    unended = []
    at = 0
    while at < len(row):
        byte = row[at]
        if byte in (ROW_BEGIN, FIELDS_BEGIN):
            unended.append(len(tree))
            tree.append((KINDS[byte], at))
            at += 1
        elif byte in (ROW_END, FIELDS_END):
            at += 1
            i = unended.pop()
            tree[i] = (tree[i][0], tree[i][1], at, len(tree))
        elif is_white(byte) or byte in (COMMA, COLON):
            at += 1
        else:
            tree.append(leaf(row, at, len(tree)))
            at = tree[-1][2]
    return [with_member(tree, i) for i in range(len(tree))]


# The node, with this number, of a word, a number, a text or a name.
def leaf(row, at, i):
    kind = KINDS.get(row[at], "number")
    if kind != "text":
        return (kind, at, plain_end(row, at), i + 1)
    end = text_end(row, at)
    return ("name" if is_name(row, end) else "text", at, end, i + 1)


# The place behind the word or number that begins at a place.
def plain_end(row, at):
    end = at
    while end < len(row) and not is_white(row[end]) and row[end] not in (COMMA, ROW_END, FIELDS_END):
        end += 1
    return end


# The place behind the text that begins at a place.
def text_end(row, at):
    end = at + 1
    while row[end] != QUOTE:
        end += 2 if row[end] == BACKSLASH else 1
    return end + 1


# Whether the text that ends ahead of a place is a name: behind no other one does a colon come.
def is_name(row, end):
    while end < len(row) and is_white(row[end]):
        end += 1
    return end < len(row) and row[end] == COLON


# A node as it is, but a name with the next node behind its member's value.
def with_member(tree, i):
    node = tree[i]
    if node[0] != "name":
        return node
    return (node[0], node[1], node[2], tree[i + 1][3])
