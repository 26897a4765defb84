"""What texts and names mean, and how texts are written: [3.2] and [3.3]."""

from plainglass.eights import FIRST_PAIRED, LAST_PAIRED, eight, points
from plainglass.errors import NoNode
from plainglass.signs import BACKSLASH, BLANK, NOUGHT, QUOTE, SMALL_U, hex_worth, short_escape

# The characters that are written with a backslash ahead, each with the byte behind it.
ESCAPED = {8: 98, 9: 116, 10: 110, 12: 102, 13: 114, 34: 34, 92: 92}

# An escape with u: the backslash, the u and four figures.
CODE_SIZE = 6


def meant(row, tree, i):
    node = tree[i]
    if node[0] not in ("text", "name"):
        raise NoNode("a node that is neither a text nor a name")
    return without_escapes(points(row[node[1] + 1:node[2] - 1]))


# The characters that are meant by those that stand between the quotes.
def without_escapes(signs):
    found = []
    at = 0
    while at < len(signs):
        size = sign_size(signs, at)
        found.append(sign_meant(signs, at, size))
        at += size
    return found


# How many characters write, from a place on, one that is meant.
def sign_size(signs, at):
    if signs[at] != BACKSLASH:
        return 1
    if signs[at + 1] != SMALL_U:
        return 2
    if FIRST_PAIRED <= code(signs, at) <= LAST_PAIRED:
        return 2 * CODE_SIZE
    return CODE_SIZE


def sign_meant(signs, at, size):
    if size == 1:
        return signs[at]
    if size == 2:
        return short_escape(signs[at + 1])
    if size == CODE_SIZE:
        return code(signs, at)
    return 65536 + 1024 * (code(signs, at) - 55296) + code(signs, at + CODE_SIZE) - 56320


# The number that the four figures of the escape at a place write.
def code(signs, at):
    number = 0
    for figure in signs[at + 2:at + CODE_SIZE]:
        number = 16 * number + hex_worth(figure)
    return number


def told(numbers):
    row = [QUOTE]
    for point in numbers:
        row.extend(told_sign(point))
    row.append(QUOTE)
    return row


def told_sign(point):
    # Refuses a number that is no character's, ahead of any question how it is written.
    row = eight(point)
    if point in ESCAPED:
        return [BACKSLASH, ESCAPED[point]]
    if point < BLANK:
        return [BACKSLASH, SMALL_U, NOUGHT, NOUGHT, small_figure(point // 16), small_figure(point % 16)]
    return row


# The byte of the small hexadecimal figure that is worth this much.
def small_figure(worth):
    return NOUGHT + worth if worth < 10 else 87 + worth
