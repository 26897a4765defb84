"""The second reading of the tests is held against Python's own json."""

import json
import unittest

from tests.model import TEXTS, Wrong, fault_of, made_texts, nodes_of, read, value_of


def refuse(word):
    raise ValueError(word)


# The value as Python's json reads it.
def json_value(row):
    return told(json.loads(row.decode(), object_pairs_hook=Members, parse_int=Number, parse_float=Number,
                           parse_constant=refuse))


class Members(list):
    pass


class Number(str):
    pass


def told(thing):
    if isinstance(thing, Members):
        return "fields", tuple([(tuple(map(ord, name)), told(value)) for name, value in thing])
    if isinstance(thing, list):
        return "row", tuple([told(value) for value in thing])
    if isinstance(thing, Number):
        return number_told(thing)
    return ("text", tuple(map(ord, thing))) if isinstance(thing, str) else thing


def number_told(words):
    base, _, power = words.lower().partition("e")
    ahead, _, behind = base.partition(".")
    number, power = int(ahead + behind), int(power or "0") - len(behind)
    while number and number % 10 == 0:
        number, power = number // 10, power + 1
    return ("number", number, power) if number else ("number", 0, 0)


class Model(unittest.TestCase):
    def test_values(self):
        for text in TEXTS + tuple(made_texts(500)):
            self.assertEqual(value_of(text), json_value(text), text)

    def test_nodes(self):
        for text in TEXTS + tuple(made_texts(200)):
            tree = nodes_of(text)
            self.assertEqual([node[1] for node in tree], sorted({node[1] for node in tree}))
            for kind, at, end, after in tree:
                self.assertIsNone(fault_of(text[at:end]))
                self.assertEqual(after, len([node for node in tree if node[1] < tree_end(tree, kind, at, end)]))

    def test_cut_texts(self):
        for text in TEXTS + tuple(made_texts(100)):
            for size in range(len(text)):
                self.assertIn(fault_of(text[:size]), (None, size))

    def test_faults(self):
        for row, at in ((b"", 0), (b"01", 1), (b"[1,]", 3), (b'{"a",', 4), (b'"\xe0\x9f', 2), (b'"\\udc', 4), (b"[" * 65, 64)):
            self.assertRaises(Wrong, read, row)
            self.assertEqual(fault_of(row), at)


# Behind a name all of its member's value is behind too.
def tree_end(tree, kind, at, end):
    if kind != "name":
        return end
    return min([node for node in tree if node[1] >= end], key=lambda node: node[1])[2]


if __name__ == "__main__":
    unittest.main()
