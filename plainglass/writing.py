"""Values written as JSON texts: [4.3]."""

from plainglass.numbers import told_number
from plainglass.signs import BLANK, COLON, COMMA, FIELDS_BEGIN, FIELDS_END, LINE_END, ROW_BEGIN, ROW_END
from plainglass.strings import told
from plainglass.values import kind_of


def written(thing):
    return spread(thing, None)


def laid(thing, step):
    return spread(thing, step)


# The row of a value, laid with a step, or without any white byte where the step is None.
def spread(thing, step):
    row = []
    # What is still to come, the next one last: rows of bytes, and pairs of a value and how many brackets are round it.
    pending = [(thing, 0)]
    while pending:
        piece = pending.pop()
        if isinstance(piece, list):
            row.extend(piece)
        else:
            pending.extend(pieces(piece[0], piece[1], step)[::-1])
    return row


def pieces(thing, deep, step):
    kind = kind_of(thing)
    if kind == "number":
        return [told_number(thing[1], thing[2])]
    if kind == "text":
        return [told(thing[1])]
    if kind == "row":
        inner = [[(within, deep + 1)] for within in thing[1]]
        return bracketed(ROW_BEGIN, inner, ROW_END, deep, step)
    if kind == "fields":
        inner = [[told(pair[0]) + colon(step), (pair[1], deep + 1)] for pair in thing[1]]
        return bracketed(FIELDS_BEGIN, inner, FIELDS_END, deep, step)
    return [[ord(sign) for sign in kind]]


# Brackets with what stands in them: for each value or member the pieces of it.
def bracketed(begin, inner, end, deep, step):
    found = [[begin]]
    for k, inner_pieces in enumerate(inner):
        if k > 0:
            found.append([COMMA])
        found.append(line_begin(deep + 1, step))
        found.extend(inner_pieces)
    if inner:
        found.append(line_begin(deep, step))
    found.append([end])
    return found


# What stands ahead of a value, a member or a closing bracket with so many brackets round it.
def line_begin(deep, step):
    if step is None:
        return []
    return [LINE_END] + [BLANK] * (step * deep)


def colon(step):
    return [COLON] if step is None else [COLON, BLANK]
