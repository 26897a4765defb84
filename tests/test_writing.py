"""[4.3], and the last of [0.2]: what is written is read to the same value."""

import inspect
import json
import re
import unittest

from plainglass.values import value
from plainglass.writing import laid, written
from tests.model import TEXTS, made_values, nested, value_of


# A value as Python's json has it, members as a dict; for those that are clean and whole.
def plain(thing):
    if not isinstance(thing, tuple):
        return thing
    if thing[0] == "number":
        return thing[1] * 10 ** thing[2]
    if thing[0] == "text":
        return "".join(map(chr, thing[1]))
    if thing[0] == "row":
        return [plain(inner) for inner in thing[1]]
    return {"".join(map(chr, name)): plain(inner) for name, inner in thing[1]}


SAMPLE = value_of(b'{"a":[1,-20,{},[],{"b":null,"a":[[true]]}],"\\n":{"c":"\\u0001/\\"\\u00e9"},"":false}')


class Written(unittest.TestCase):
    def test_arguments(self):
        self.assertEqual(list(inspect.signature(written).parameters), ["thing"])
        self.assertEqual(list(inspect.signature(laid).parameters), ["thing", "step"])

    def test_by_hand(self):
        for text, expected in (
            (b" null ", b"null"), (b"true", b"true"), (b"false", b"false"), (b"0.0", b"0"), (b"-12.50", b"-125e-1"),
            (b"100", b"1e2"), (b'"\\u0041\\/"', b'"A/"'), (b'"\\u0001\\u000A\\u00e9"', b'"\\u0001\\n\xc3\xa9"'), (b"[ ]", b"[]"),
            (b"{ }", b"{}"), (b"[ 1 , [ ] , { } ]", b"[1,[],{}]"), (b'{ "b" : 1 , "a" : { "b" : [ 2 ] } }', b'{"b":1,"a":{"b":[2]}}'),
            (b'{"a" : 1, "\\u0061" : 2}', b'{"a":1,"a":2}'), (b'{"\\u0022" : null}', b'{"\\"":null}'),
        ):
            row = written(value_of(text))
            self.assertEqual(bytes(row), expected)
            self.assertIs(type(row), list)

    def test_read_back(self):
        for thing in [value_of(text) for text in TEXTS] + made_values(500):
            row = written(thing)
            self.assertEqual(value(row), thing)
            self.assertEqual(value_of(row), thing)

    def test_no_white_bytes(self):
        for thing in made_values(200, seed=2):
            outside = re.sub(rb'"(\\.|[^"\\])*"', b"", bytes(written(thing)))
            self.assertNotRegex(outside, rb"\s")

    def test_the_deepest(self):
        self.assertEqual(bytes(written(nested(64, ("row",), True))), b"[" * 64 + b"true" + b"]" * 64)
        self.assertEqual(bytes(written(nested(64, ("fields",), None))), b'{"a":' * 64 + b"null" + b"}" * 64)

    def test_long_numbers(self):
        row = written(("row", (("number", 10 ** 3999 - 1, 10 ** 3999), ("number", 1, 1 - 10 ** 4000))))
        self.assertEqual(bytes(row), b"[" + b"9" * 3999 + b"e1" + b"0" * 3999 + b",1e-" + b"9" * 4000 + b"]")

    def test_each_list_is_new(self):
        for thing in (None, ("row", ()), SAMPLE):
            first, second = written(thing), written(thing)
            self.assertIsNot(first, second)
            first.append(0)
            self.assertEqual(written(thing), second)


class Laid(unittest.TestCase):
    def test_by_hand(self):
        thing = value_of(b'{"a":[1,{},[],{"b":null}],"c":{}}')
        self.assertEqual(bytes(laid(thing, 2)), b'{\n  "a": [\n    1,\n    {},\n    [],\n    {\n      "b": null\n    }\n  ],\n'
                                                b'  "c": {}\n}')
        self.assertEqual(bytes(laid(thing, 0)), b'{\n"a": [\n1,\n{},\n[],\n{\n"b": null\n}\n],\n"c": {}\n}')
        self.assertEqual(bytes(laid(value_of(b"[1]"), 8)), b"[\n        1\n]")

    def test_values_with_nothing_in_them(self):
        for text in (b"null", b"true", b"false", b"125e-1", b'"a: [1, 2]"', b"[]", b"{}"):
            for step in range(9):
                row = laid(value_of(text), step)
                self.assertEqual(bytes(row), text)
                self.assertIs(type(row), list)

    def test_as_another_lays_them(self):
        thing = value_of(b'{"a":[1,-20,{},[],{"b":null,"a":[[true]]}],"\\n":{"c":"\\u0001/\\"\\u00e9"},"":false}')
        whole = value_of(b'{"a":[1,-2,{},[],{"b":null,"a":[[true]]}],"\\n":{"c":"\\u0001/\\"\\u00e9"},"":false}')
        for step in range(9):
            expected = json.dumps(plain(whole), indent=step, ensure_ascii=False).encode()
            self.assertEqual(bytes(laid(whole, step)), expected)
            self.assertEqual(bytes(laid(thing, step)), expected.replace(b"-2,", b"-2e1,"))

    def test_read_back(self):
        for thing in [value_of(text) for text in TEXTS] + made_values(200):
            for step in range(9):
                self.assertEqual(value_of(laid(thing, step)), thing)

    def test_lines_are_those_of_the_written_row(self):
        for thing in made_values(200, seed=5):
            short = bytes(written(thing))
            for step in (0, 3):
                lines = bytes(laid(thing, step)).split(b"\n")
                tight = b"".join([line.lstrip(b" ") for line in lines])
                self.assertEqual(len(tight) - len(short), colons(thing))

    def test_the_deepest(self):
        row = bytes(laid(nested(64, ("row",), None), 8))
        lines = [b" " * 8 * k + b"[" for k in range(64)] + [b" " * 512 + b"null"] + [b" " * 8 * k + b"]" for k in range(63, -1, -1)]
        self.assertEqual(row, b"\n".join(lines))
        deep = nested(64, ("fields", "row"), False)
        self.assertEqual(value_of(laid(deep, 1)), deep)

    def test_each_list_is_new(self):
        for thing in (None, ("row", ()), SAMPLE):
            first, second = laid(thing, 2), laid(thing, 2)
            self.assertIsNot(first, second)
            first.append(0)
            self.assertEqual(laid(thing, 2), second)


# How many members there are in a value.
def colons(thing):
    if not isinstance(thing, tuple) or thing[0] not in ("row", "fields"):
        return 0
    if thing[0] == "row":
        return sum([colons(inner) for inner in thing[1]])
    return sum([1 + colons(inner) for name, inner in thing[1]])


if __name__ == "__main__":
    unittest.main()
