"""Bytes inside and outside of texts, whatever the bytes: [8.3]."""

from plainglass.signs import BACKSLASH, COLON, COMMA, FIELDS_BEGIN, FIELDS_END, QUOTE, ROW_BEGIN, ROW_END, is_white


def small(row):
    return [byte for byte, sort in zip(row, sorts(row)) if sort != "white"]


def marks(row):
    found = []
    ahead = None
    for place, sort in enumerate(sorts(row)):
        if sort in ("mark", "quote") or (sort == "run" and ahead != "run"):
            found.append(place)
        ahead = sort
    return found


# What each byte is: outside "white", "mark", "quote" where it begins a text, "run"; else "inside", the quote that ends
# a text too.
def sorts(row):
    found = []
    inside = False
    taken_along = False
    for byte in row:
        if not inside:
            found.append(outside_sort(byte))
            inside = byte == QUOTE
        else:
            found.append("inside")
            inside = taken_along or byte != QUOTE
            taken_along = byte == BACKSLASH and not taken_along
    return found


def outside_sort(byte):
    if is_white(byte):
        return "white"
    if byte == QUOTE:
        return "quote"
    if byte in (COMMA, COLON, ROW_BEGIN, ROW_END, FIELDS_BEGIN, FIELDS_END):
        return "mark"
    return "run"
