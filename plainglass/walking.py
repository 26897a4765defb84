"""The grammar of [2.1] and [2.2], walked byte by byte.

What is still to come of a JSON text is kept as a list of items. An item is a span, the pair of the least
and the greatest byte that may come, or one of these words:
- "white": white bytes, or none
- "value": a value
- "lead", "figures", "fraction", "exponent", "sign": of a number, what stands behind its minus; figures, or
  none; the point and what belongs to it, or nothing; the e and what belongs to it, or nothing; + or - or nothing
- "text": the rest of a text, behind its first quote or any character in it
- "escape", "code", "code d": the rest of an escape, behind its backslash, its u, its u and a d
- "hex", "hex d", "hex c to f": a hexadecimal figure, one worth 13, one worth 12 to 15
- "row", "more row": the rest of a row, behind its bracket, behind a value in it
- "fields", "more fields": the rest of fields, behind their bracket, behind a member in them
- "name": a name

Every item can be ended, so bytes that were taken are the beginning of some JSON text.
"""

from plainglass.eights import tails
from plainglass.signs import BACKSLASH, BIG_E, BLANK, COLON, COMMA, FIELDS_BEGIN, FIELDS_END, MINUS, NINE, NOUGHT
from plainglass.signs import PLUS, POINT, QUOTE, ROW_BEGIN, ROW_END, SMALL_E, SMALL_U
from plainglass.signs import hex_worth, is_figure, is_white, short_escape, word_rest

MOST_BRACKETS = 64

# These may stand for no byte at all: a byte that is not theirs is for the item behind them.
LOOSE = ("white", "figures", "fraction", "exponent", "sign")
# For each bracket begun and not ended just one of these is to come.
UNENDED = ("row", "more row", "fields", "more fields")


# The walk over one JSON text, from its beginning on.
class Walk:
    # coming holds the items to come, the next one last.
    def __init__(self):
        self.coming = ["white", "value", "white"]

    # Takes the bytes of a row as far as a JSON text goes on with them, and tells how many these are. Where they
    # are not all, the walk is not used any more.
    def take(self, row):
        for at, byte in enumerate(row):
            if not self.goes_on(byte):
                return at
        return len(row)

    # Takes one byte, and tells whether a JSON text goes on with it.
    def goes_on(self, byte):
        while self.coming:
            item = self.coming.pop()
            items = behind(item, byte)
            if items is not None:
                self.coming.extend(items[::-1])
                return self.brackets() <= MOST_BRACKETS
            if item not in LOOSE:
                return False
        return False

    # How many brackets are begun and not ended.
    def brackets(self):
        return len([item for item in self.coming if item in UNENDED])

    # Whether what was taken is a JSON text with which no value goes on: white bytes alone are to come.
    def is_ended(self):
        return self.coming == ["white"]

    # Whether what was taken is a JSON text as it stands.
    def is_whole(self):
        return all([item in LOOSE for item in self.coming])


# The items to come behind the byte where an item takes it; None where it does not.
def behind(item, byte):
    if isinstance(item, tuple):
        return [] if item[0] <= byte <= item[1] else None
    if item in ("lead", "figures", "fraction", "exponent", "sign"):
        return behind_in_number(item, byte)
    if item in ("text", "escape", "code", "code d"):
        return behind_in_text(item, byte)
    if item in ("hex", "hex d", "hex c to f"):
        return behind_hex(item, byte)
    if item in UNENDED:
        return behind_in_brackets(item, byte)
    if item == "white":
        return ["white"] if is_white(byte) else None
    if item == "name":
        return ["text"] if byte == QUOTE else None
    return behind_value(byte)


def behind_value(byte):
    if byte == ROW_BEGIN:
        return ["white", "row"]
    if byte == FIELDS_BEGIN:
        return ["white", "fields"]
    if byte == QUOTE:
        return ["text"]
    if byte == MINUS:
        return ["lead"]
    rest = word_rest(byte)
    if rest is not None:
        return [(sign, sign) for sign in rest]
    return behind_lead(byte)


def behind_lead(byte):
    if byte == NOUGHT:
        return ["fraction", "exponent"]
    if is_figure(byte):
        return ["figures", "fraction", "exponent"]
    return None


def behind_in_number(item, byte):
    if item == "lead":
        return behind_lead(byte)
    if item == "figures":
        return ["figures"] if is_figure(byte) else None
    if item == "fraction":
        return [(NOUGHT, NINE), "figures"] if byte == POINT else None
    if item == "exponent":
        return ["sign", (NOUGHT, NINE), "figures"] if byte in (SMALL_E, BIG_E) else None
    return [] if byte in (PLUS, MINUS) else None


def behind_in_text(item, byte):
    if item == "text":
        return behind_character(byte)
    if item == "escape":
        return behind_backslash(byte)
    worth = hex_worth(byte)
    if worth is None:
        return None
    if item == "code":
        return ["code d"] if worth == 13 else ["hex", "hex", "hex"]
    return behind_code_d(worth)


def behind_character(byte):
    if byte == QUOTE:
        return []
    if byte == BACKSLASH:
        return ["escape", "text"]
    spans = tails(byte)
    if byte < BLANK or spans is None:
        return None
    return spans + ["text"]


def behind_backslash(byte):
    if byte == SMALL_U:
        return ["code"]
    return None if short_escape(byte) is None else []


# d8 to db begin the first of a pair, whose second must follow at once; dc to df stand in such a second alone.
def behind_code_d(worth):
    if worth < 8:
        return ["hex", "hex"]
    if worth < 12:
        second = [(BACKSLASH, BACKSLASH), (SMALL_U, SMALL_U), "hex d", "hex c to f", "hex", "hex"]
        return ["hex", "hex"] + second
    return None


def behind_hex(item, byte):
    worth = hex_worth(byte)
    if worth is None:
        return None
    if item == "hex d":
        return [] if worth == 13 else None
    if item == "hex c to f":
        return [] if worth >= 12 else None
    return []


def behind_in_brackets(item, byte):
    if item == "row":
        return behind_row_begin(byte)
    if item == "fields":
        return behind_fields_begin(byte)
    if item == "more row":
        if byte == COMMA:
            return ["white", "value", "white", "more row"]
        return [] if byte == ROW_END else None
    if byte == COMMA:
        return ["white", "name"] + member_rest()
    return [] if byte == FIELDS_END else None


def behind_row_begin(byte):
    if byte == ROW_END:
        return []
    items = behind_value(byte)
    return None if items is None else items + ["white", "more row"]


def behind_fields_begin(byte):
    if byte == FIELDS_END:
        return []
    return ["text"] + member_rest() if byte == QUOTE else None


# What comes behind a member's name.
def member_rest():
    return ["white", (COLON, COLON), "white", "value", "white", "more fields"]
