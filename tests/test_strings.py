"""[3.2] and [3.3]."""

import inspect
import itertools
import json
import unittest

from plainglass.errors import GlassError, NoNode, NoPoint
from plainglass.nodes import nodes
from plainglass.strings import meant, told
from tests.model import TEXTS, made_texts, value_of

EDGES = (0, 1, 7, 8, 9, 10, 11, 12, 13, 14, 31, 32, 33, 34, 35, 47, 92, 126, 127, 128, 255, 2047, 2048, 55295, 57344, 65535,
         65536, 128512, 1114111)
NO_CHARACTERS = (-1, -34, 55296, 56319, 56320, 57343, 1114112, 10 ** 4000, -10 ** 4000)


# What a text means, by itself and as a name.
def meanings(row):
    row = list(row)
    name = [123] + row + [58, 48, 125]
    return meant(row, nodes(row), 0), meant(name, nodes(name), 1)


class Meant(unittest.TestCase):
    def assert_meant(self, row, expected):
        self.assertEqual(meanings(row), (expected, expected), row)

    def test_arguments(self):
        self.assertEqual(list(inspect.signature(meant).parameters), ["row", "tree", "i"])

    def test_characters_as_they_are(self):
        self.assert_meant(b'""', [])
        for point in range(32, 1114112, 37):
            if not 55296 <= point <= 57343 and point not in (34, 92):
                self.assert_meant(b'"' + chr(point).encode() + b'"', [point])
        for points in itertools.permutations((65, 233, 8364, 128512), 3):
            self.assert_meant(b'"' + "".join(map(chr, points)).encode() + b'"', list(points))

    def test_short_escapes(self):
        for sign, point in zip(b'"\\/bfnrt', (34, 92, 47, 8, 12, 10, 13, 9)):
            self.assert_meant(b'"\\' + bytes([sign]) + b'"', [point])
            self.assert_meant(b'"a\\' + bytes([sign]) + b'b\\' + bytes([sign]) + b'"', [97, point, 98, point])

    def test_every_number_of_four_figures(self):
        for point in itertools.chain(range(0, 55296, 7), range(57344, 65536, 5), (34, 92, 47, 55295, 65535)):
            self.assert_meant(b'"\\u%04x"' % point, [point])
            self.assert_meant(b'"\\u%04X"' % point, [point])

    def test_figures_of_either_size(self):
        self.assert_meant(b'"\\uaBcD\\u00E9\\u00e9\\uFfFf"', [0xabcd, 233, 233, 65535])

    def test_pairs(self):
        for point in list(range(65536, 1114112, 997)) + [65536, 66559, 66560, 1113088, 1114111]:
            high, low = 55296 + (point - 65536) // 1024, 56320 + (point - 65536) % 1024
            self.assert_meant(b'"\\u%04x\\u%04X"' % (high, low), [point])
        self.assert_meant(b'"a\\ud83d\\ude00\\ud83d\\ude01b"', [97, 128512, 128513, 98])
        self.assert_meant(b'"\\ud7ff\\ue000"', [55295, 57344])

    def test_what_looks_like_an_escape(self):
        self.assert_meant(b'"\\\\u0041"', [92, 117, 48, 48, 52, 49])
        self.assert_meant(b'"\\\\n\\\\\\n"', [92, 110, 92, 10])
        self.assert_meant(b'"u0041/bn"', [117, 48, 48, 52, 49, 47, 98, 110])

    def test_nodes_of_texts(self):
        for text in TEXTS + tuple(made_texts(200)):
            row = list(text)
            tree = nodes(row)
            for i, (kind, at, end, after) in enumerate(tree):
                if kind in ("text", "name"):
                    expected = list(map(ord, json.loads(text[at:end])))
                    self.assertEqual(meant(row, tree, i), expected)
                    self.assertIs(type(meant(row, tree, i)), list)

    def test_nodes_that_are_neither(self):
        row = list(b'[null,true,false,1,[],{},{"a":"b"},[""]]')
        tree = nodes(row)
        for i, node in enumerate(tree):
            if node[0] not in ("text", "name"):
                with self.assertRaises(NoNode) as caught:
                    meant(row, tree, i)
                self.assertIsInstance(caught.exception, GlassError)
        self.assertEqual({node[0] for node in tree}, set("null true false number row fields name text".split()))

    def test_handed(self):
        row = list(b'{"a":"b"}')
        tree = nodes(row)
        kept = list(row), list(tree)
        first, second = meant(row, tree, 2), meant(row, tree, 2)
        self.assertEqual((row, tree), kept)
        self.assertIsNot(first, second)
        first.append(0)
        self.assertEqual(meant(row, tree, 2), [98])


class Told(unittest.TestCase):
    def assert_told(self, numbers, expected):
        self.assertEqual(bytes(told(numbers)), expected, numbers)

    def test_arguments(self):
        self.assertEqual(list(inspect.signature(told).parameters), ["numbers"])

    def test_plain_ones(self):
        self.assert_told([], b'""')
        self.assert_told([97, 32, 47, 127, 126], b'"a /\x7f~"')
        self.assert_told([233, 8364, 128512], '"\u00e9\u20ac\U0001f600"'.encode())

    def test_with_a_backslash_ahead(self):
        self.assert_told([34, 92, 8, 12, 10, 13, 9], b'"\\"\\\\\\b\\f\\n\\r\\t"')

    def test_below_thirty_two(self):
        for point in range(32):
            short = {8: b"\\b", 9: b"\\t", 10: b"\\n", 12: b"\\f", 13: b"\\r"}
            self.assert_told([point], b'"' + short.get(point, b"\\u%04x" % point) + b'"')
        self.assert_told([0, 31, 11, 27], b'"\\u0000\\u001f\\u000b\\u001b"')

    def test_each_alone_and_two(self):
        for numbers in itertools.chain([(point,) for point in EDGES], itertools.product(EDGES, repeat=2)):
            expected = json.dumps("".join(map(chr, numbers)), ensure_ascii=False).encode()
            self.assert_told(list(numbers), expected)

    def test_read_back(self):
        for numbers in itertools.product(EDGES, repeat=2):
            self.assertEqual(meanings(told(numbers)), (list(numbers), list(numbers)))
        numbers = list(EDGES) * 30
        self.assertEqual(meanings(told(numbers)), (numbers, numbers))
        self.assertEqual(value_of(told(numbers)), ("text", tuple(numbers)))

    def test_a_tuple_is_taken_as_a_list(self):
        self.assert_told((97, 10), b'"a\\n"')

    def test_no_characters(self):
        for number in NO_CHARACTERS:
            for numbers in ([number], [number, 97], [97, number], [97, 34, number, 10], [number, number]):
                kept = list(numbers)
                with self.assertRaises(NoPoint) as caught:
                    told(numbers)
                self.assertIsInstance(caught.exception, GlassError)
                self.assertEqual(numbers, kept)
        for number in range(55296, 57344):
            self.assertRaises(NoPoint, told, [97, number])
        self.assertRaises(NoPoint, told, [55357, 56832])

    def test_handed(self):
        numbers = [97, 10]
        first, second = told(numbers), told(numbers)
        self.assertEqual(numbers, [97, 10])
        self.assertIs(type(first), list)
        self.assertIsNot(first, second)
        first.append(0)
        self.assertEqual(told(numbers), second)


if __name__ == "__main__":
    unittest.main()
