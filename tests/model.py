"""A second reading of JSON texts, for the tests: top down, with Python's own UTF-8, and texts to try it on.

It shares nothing with the package, so where the two agree neither is wrong by the other's fault.
"""

import itertools
import random

WHITE = b" \t\n\r"
FIGURES = b"0123456789"
HEX = b"0123456789abcdefABCDEF"
SHORT = dict(zip(b'"\\/bfnrt', (34, 92, 47, 8, 12, 10, 13, 9)))


class Wrong(Exception):
    def __init__(self, at):
        self.at = at


class Reader:
    def __init__(self, row):
        self.row = bytes(row)
        self.at = 0
        self.depth = 0
        self.tree = []

    def peek(self, allowed):
        return self.at < len(self.row) and self.row[self.at] in allowed

    def need(self, allowed):
        if not self.peek(allowed):
            raise Wrong(self.at)
        self.at += 1
        return self.row[self.at - 1]

    def many(self, allowed):
        begin = self.at
        while self.peek(allowed):
            self.at += 1
        return self.row[begin:self.at]

    def whole(self):
        self.many(WHITE)
        value = self.value()
        self.many(WHITE)
        if self.at < len(self.row):
            raise Wrong(self.at)
        return value

    def value(self):
        i, begin = len(self.tree), self.at
        self.tree.append(None)
        for word, worth in ((b"null", None), (b"true", True), (b"false", False)):
            if self.peek(word[:1]):
                for sign in word:
                    self.need([sign])
                kind, value = word.decode(), worth
                break
        else:
            if self.peek(b'"'):
                kind, value = "text", ("text", self.text())
            elif self.peek(b"[{"):
                kind, value = self.brackets()
            else:
                kind, value = "number", ("number", *self.number())
        self.tree[i] = (kind, begin, self.at, len(self.tree))
        return value

    def number(self):
        sign = -1 if self.peek(b"-") and self.need(b"-") else 1
        figures = bytes([self.need(FIGURES)])
        if figures != b"0":
            figures += self.many(FIGURES)
        power = 0
        if self.peek(b"."):
            self.at += 1
            fraction = bytes([self.need(FIGURES)]) + self.many(FIGURES)
            figures, power = figures + fraction, -len(fraction)
        if self.peek(b"eE"):
            self.at += 1
            power_sign = -1 if self.peek(b"+-") and self.need(b"+-") == 45 else 1
            power += power_sign * worth_of(bytes([self.need(FIGURES)]) + self.many(FIGURES))
        return pair_of(sign * worth_of(figures), power)

    def text(self):
        self.need(b'"')
        found = []
        while not self.peek(b'"'):
            if self.peek(b"\\"):
                self.at += 1
                found.append(self.escape())
            else:
                found.append(self.character())
        self.at += 1
        return tuple(found)

    def escape(self):
        sign = self.need(b'"\\/bfnrtu')
        if sign != ord("u"):
            return SHORT[sign]
        begin = self.at
        if self.need(HEX) in b"dD":
            self.need(b"0123456789abAB")
            if self.row[self.at - 1] in b"89abAB":
                self.need(HEX), self.need(HEX)
                first = int(self.row[begin:self.at], 16)
                for allowed in (b"\\", b"u", b"dD", b"cdefCDEF", HEX, HEX):
                    self.need(allowed)
                second = int(self.row[self.at - 4:self.at], 16)
                return ord((chr(first) + chr(second)).encode("utf-16-be", "surrogatepass").decode("utf-16-be"))
        while self.at < begin + 4:
            self.need(HEX)
        return int(self.row[begin:self.at], 16)

    def character(self):
        begin = self.at
        while begin == self.at or not decoded(self.row[begin:self.at]):
            self.need(range(32, 256))
            if not begins_character(self.row[begin:self.at]):
                raise Wrong(self.at - 1)
        return ord(decoded(self.row[begin:self.at]))

    def brackets(self):
        if self.depth == 64:
            raise Wrong(self.at)
        self.depth += 1
        is_row = self.need(b"[{") == ord("[")
        found = []
        self.many(WHITE)
        end = b"]" if is_row else b"}"
        while found or not self.peek(end):
            if found:
                if self.peek(end):
                    break
                self.need(b",")
                self.many(WHITE)
            found.append(self.value() if is_row else self.member())
            self.many(WHITE)
        self.need(end)
        self.depth -= 1
        kind = "row" if is_row else "fields"
        return kind, (kind, tuple(found))

    def member(self):
        i, begin = len(self.tree), self.at
        self.tree.append(None)
        name, end = self.text(), self.at
        self.many(WHITE)
        self.need(b":")
        self.many(WHITE)
        value = self.value()
        self.tree[i] = ("name", begin, end, len(self.tree))
        return name, value


# An empty text where the bytes are no characters.
def decoded(coded):
    try:
        return coded.decode()
    except UnicodeDecodeError:
        return ""


# Python's own reading in pieces takes 237 and 160 for a beginning, so it is not asked.
def begins_character(coded):
    return any([decoded(coded + tail * count) for tail in (b"\x80", b"\xbf") for count in range(4)])


# Python's own int takes no more than 4300 figures at once.
def worth_of(figures):
    worth = 0
    for at in range(0, len(figures), 1000):
        part = figures[at:at + 1000]
        worth = worth * 10 ** len(part) + int(part)
    return worth


def pair_of(number, power):
    if number == 0:
        return 0, 0
    while number % 10 == 0:
        number, power = number // 10, power + 1
    return number, power


def read(row):
    reader = Reader(row)
    value = reader.whole()
    return value, reader.tree


def fault_of(row):
    try:
        read(row)
    except Wrong as wrong:
        return wrong.at
    return None


def value_of(row):
    return read(row)[0]


def nodes_of(row):
    return read(row)[1]


# Texts of every kind.
TEXTS = (
    b"null", b"true", b"false", b" null\t", b"\r\n true \n", b"0", b"-0", b"7", b"10", b"-12.50e+07", b"1E5", b"1e-5",
    b"0.001e3", b"-0.0E-0", b" 120 ", b'""', b'"a b/"', b'"[1,{}]"', b"[]", b"[ ]", b"[1]", b"[ 1 , [ ] , { } ]", b"{}",
    b"{\n}", b'{"a":1}', b'{"":""}', b'{ "a" : 1 , "a" : [ null ] }', b'["\\"\\\\\\/\\b\\f\\n\\r\\t\\u00e9\\uABcd"]',
    "\"\u00e9\u20ac\U0001f600\"".encode(), b'"\x7f"', b'"\\ud7ff\\ue000"', b'"\\ud800\\udc00"',
    b'"\\uDBFF\\uDFFF\\uD83d\\uDe00"', b'{"\\u0061\\/":"\\\\","a/":true}', b"[[[]],[{}],[[1,2],[3]]]",
    b'{"a":{"b":{"c":[]}},"d":[{"e":false},null,-1.5]}', b' [ "x" ,\t"y"\r\n, 0.5 , { "k" : { } , "l" : [ ] } ] ',
    b'[null,true,false,0,"",[],{}]', b'{"a":"}","b":"]","c":",","d":":","e":"\\""}',
    '{"\u00e9":[1e400,"\U00010000"],"~/":-0.00}'.encode(), b"[" * 64 + b"]" * 64, b'{"":' * 64 + b"0" + b"}" * 64,
    b'[{"":' * 32 + b"-1e-1" + b"}]" * 32,
)

SIGNS = b' \t\n\r!"+,-./0189:Eeafbnrtusl[\\]dDcC{}~\x00\x1f\x7f\x80\x8f\x90\x9f\xa0\xbf\xc1\xc2\xe0\xed\xf0\xf4\xf5\xff'


# Rows with one byte made another, taken out or put in.
def changed_rows(text, signs=SIGNS):
    for at in range(len(text)):
        yield text[:at] + text[at + 1:]
        for sign in signs:
            yield text[:at] + bytes([sign]) + text[at + 1:]
            yield text[:at] + bytes([sign]) + text[at:]
    for sign in signs:
        yield text + bytes([sign])


# Texts made by chance, always the same ones.
class Maker:
    def __init__(self, seed):
        self.chance = random.Random(seed)

    def one_of(self, *choices):
        return self.chance.choice(choices)

    def white(self):
        return self.one_of(b"", b"", b"", b" ", b"\n", b"\t ", b"\r\n")

    def text(self):
        return b'"' + b"".join([self.sign() for turn in range(self.chance.randrange(4))]) + b'"'

    def sign(self):
        return self.one_of(b"a", b"a", b"b", b"0", b"1", b"-", b"~", b"/", b" ", b"\\n", b"\\u0061", b"\\u00E9", b"\\/",
                           b"\\\"", b"\\\\", b"\xc3\xa9", b"\xe2\x82\xac", b"\xf0\x9f\x98\x80", b"\\ud83d\\uDE00")

    def number(self):
        return (self.one_of(b"", b"-") + self.one_of(b"0", b"1", b"12", b"100", b"1200")
                + self.one_of(b"", b"", b".0", b".5", b".250", b".00") + self.one_of(b"", b"", b"e1", b"E+02", b"e-2", b"e0"))

    def value(self, depth):
        if depth == 0 or self.chance.random() < 0.4:
            return self.one_of(b"null", b"true", b"false", self.number(), self.number(), self.text(), b"[]", b"{}")
        inner = [self.value(depth - 1) for turn in range(self.chance.randrange(4))]
        if self.chance.random() < 0.5:
            return b"[" + self.white() + b",".join([self.white() + value + self.white() for value in inner]) + b"]"
        members = [self.white() + self.text() + self.white() + b":" + self.white() + value + self.white() for value in inner]
        return b"{" + self.white() + b",".join(members) + b"}"

    def whole(self, depth):
        return self.white() + self.value(depth) + self.white()


def made_texts(count, seed=1, depth=4):
    maker = Maker(seed)
    return [maker.whole(depth) for turn in range(count)]


# Every row of these signs that is at most so long.
def short_rows(signs, longest):
    for size in range(longest + 1):
        for row in itertools.product(signs, repeat=size):
            yield bytes(row)


# A value with the first member of each name alone.
def cleaned(thing):
    if not isinstance(thing, tuple) or thing[0] not in ("row", "fields"):
        return thing
    if thing[0] == "row":
        return "row", tuple([cleaned(value) for value in thing[1]])
    members = {}
    for name, value in thing[1]:
        members.setdefault(name, cleaned(value))
    return "fields", tuple(members.items())


# A value with its members in the order of their names, so that alike clean values are the same.
def ordered(thing, backwards=False):
    if not isinstance(thing, tuple) or thing[0] not in ("row", "fields"):
        return thing
    if thing[0] == "row":
        return "row", tuple([ordered(value, backwards) for value in thing[1]])
    members = [(name, ordered(value, backwards)) for name, value in thing[1]]
    return "fields", tuple(sorted(members, key=lambda member: member[0], reverse=backwards))


def made_values(count, seed=1, depth=4):
    return [value_of(text) for text in made_texts(count, seed, depth)]


def made_clean_values(count, seed=1, depth=4):
    return [cleaned(value) for value in made_values(count, seed, depth)]


# Each value in a value, with the parts that lead there; where a name comes twice, the first alone.
def places(thing, parts=()):
    yield parts, thing
    if isinstance(thing, tuple) and thing[0] == "row":
        for k, value in enumerate(thing[1]):
            yield from places(value, parts + (tuple(b"%d" % k),))
    if isinstance(thing, tuple) and thing[0] == "fields":
        for k, (name, value) in enumerate(thing[1]):
            if name not in [other for other, old in thing[1][:k]]:
                yield from places(value, parts + (name,))


# Values within one another: so many rows, so many fields, or the two in turns, round a value.
def nested(count, kinds, within):
    for turn in range(count):
        kind = kinds[turn % len(kinds)]
        within = (kind, (within,)) if kind == "row" else (kind, (((97,), within),))
    return within
