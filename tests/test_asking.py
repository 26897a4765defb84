"""What lies in nodes: [3.1], and the interface's words on inner, many, item and member."""

import inspect
import unittest

from plainglass.asking import inner, item, many, member
from plainglass.errors import GlassError, NoNode
from plainglass.nodes import nodes
from tests.model import TEXTS, made_texts, value_of

FAR = 10 ** 4000


class Case(unittest.TestCase):
    def assert_no_node(self, function, *handed):
        with self.assertRaises(NoNode) as caught:
            function(*handed)
        self.assertIsInstance(caught.exception, GlassError)


class Interface(Case):
    def test_arguments(self):
        for function, names in ((inner, "tree i"), (many, "tree i"), (item, "tree i k"), (member, "row tree i name")):
            self.assertEqual(list(inspect.signature(function).parameters), names.split())


class Inner(Case):
    def assert_inner(self, text, i, expected):
        tree = nodes(list(text))
        self.assertEqual(inner(tree, i), expected)
        self.assertEqual(many(tree, i), len(expected))
        self.assertIs(type(inner(tree, i)), list)
        self.assertIs(type(many(tree, i)), int)

    def test_of_none(self):
        for text in (b"null", b"true", b"false", b"1", b'"a"', b"[]", b"{}", b"[ ]", b"{ }"):
            self.assert_inner(text, 0, [])
            self.assert_inner(b"[" + text + b",[1]]", 1, [])

    def test_of_a_name(self):
        self.assert_inner(b'{"a":[1,2],"b":3}', 1, [])
        self.assert_inner(b'{"a":{"b":1}}', 1, [])
        self.assert_inner(b'{"a":{"b":1}}', 3, [])

    def test_of_rows(self):
        self.assert_inner(b"[1]", 0, [1])
        self.assert_inner(b"[1,2,3]", 0, [1, 2, 3])
        self.assert_inner(b'[[1,2],{"a":[3]},4]', 0, [1, 4, 8])
        self.assert_inner(b'[[1,2],{"a":[3]},4]', 1, [2, 3])
        self.assert_inner(b"[[[]]]", 1, [2])
        self.assert_inner(b"[[[]]]", 2, [])

    def test_of_fields(self):
        self.assert_inner(b'{"a":1}', 0, [1])
        self.assert_inner(b'{"a":1,"a":[2,{"b":3}],"c":{}}', 0, [1, 3, 9])
        self.assert_inner(b'{"a":1,"a":[2,{"b":3}],"c":{}}', 4, [5, 6])
        self.assert_inner(b'{"a":1,"a":[2,{"b":3}],"c":{}}', 6, [7])
        self.assert_inner(b'{"a":1,"a":[2,{"b":3}],"c":{}}', 10, [])


class Item(Case):
    def test_every_place(self):
        for text in TEXTS + tuple(made_texts(200)):
            tree = nodes(list(text))
            for i, node in enumerate(tree):
                found = inner(tree, i)
                for k, number in enumerate(found):
                    self.assertEqual(item(tree, i, k), number + 1 if node[0] == "fields" else number)
                for k in (-1, -len(found), len(found), len(found) + 1, -FAR, FAR, -len(found) - 1):
                    if k not in range(len(found)):
                        self.assert_no_node(item, tree, i, k)

    def test_by_hand(self):
        tree = nodes(list(b'{"a":[5,[6],7],"b":8}'))
        self.assertEqual([item(tree, 0, 0), item(tree, 0, 1)], [2, 8])
        self.assertEqual([item(tree, 2, 0), item(tree, 2, 1), item(tree, 2, 2)], [3, 4, 6])
        self.assert_no_node(item, tree, 1, 0)
        self.assert_no_node(item, tree, 3, 0)
        self.assert_no_node(item, tree, 0, -1)
        self.assert_no_node(item, tree, 0, 2)


class Member(Case):
    def assert_member(self, text, i, name, expected):
        row = list(text)
        tree = nodes(row)
        for handed in (list(name), tuple(name)):
            if expected is None:
                self.assert_no_node(member, row, tree, i, handed)
            else:
                self.assertEqual(member(row, tree, i, handed), expected)

    def test_names(self):
        text = b'{"a":1,"b":{"c":2},"":3,"ab":4}'
        for name, expected in ((b"a", 2), (b"b", 4), (b"", 8), (b"ab", 10), (b"c", None), (b"aa", None), (b"A", None)):
            self.assert_member(text, 0, name, expected)
        self.assert_member(text, 4, b"c", 6)
        self.assert_member(text, 4, b"a", None)

    def test_the_first_of_a_name(self):
        self.assert_member(b'{"x":0,"a":1,"a":2}', 0, b"a", 4)
        self.assert_member(b'{"\\u0061":1,"a":2}', 0, b"a", 2)
        self.assert_member(b'{"a":1,"\\u0061":2}', 0, b"a", 2)

    def test_written_with_escapes_or_without(self):
        for written in (b"\xc3\xa9", b"\\u00e9", b"\\u00E9"):
            self.assert_member(b'{"' + written + b'":1}', 0, [233], 2)
        for written in (b"\xf0\x9f\x98\x80", b"\\ud83d\\ude00"):
            self.assert_member(b'{"' + written + b'":1}', 0, [128512], 2)
        self.assert_member(b'{"\\u00e9":1}', 0, b"\\u00e9", None)
        self.assert_member(b'{"\\n":1}', 0, [10], 2)
        self.assert_member(b'{"\\n":1}', 0, [92, 110], None)

    def test_of_others_than_fields(self):
        for text in (b"null", b"true", b"false", b"1", b'"a"', b"[]", b"{}", b'[{"a":1}]', b'["a"]'):
            self.assert_member(text, 0, b"a", None)
            self.assert_member(text, 0, b"0", None)
            self.assert_member(text, 0, b"", None)
        self.assert_member(b'{"a":{"a":1}}', 1, b"a", None)

    def test_numbers_that_are_no_characters(self):
        for number in (-1, 55296, 57343, 1114112, FAR):
            self.assert_member(b'{"a":1,"\\ud83d\\ude00":2}', 0, [number], None)
        self.assert_member(b'{"\\ud83d\\ude00":2}', 0, [0xd83d, 0xde00], None)

    def test_agrees_with_values(self):
        for text in made_texts(200, seed=2):
            row = list(text)
            tree = nodes(row)
            for i, node in enumerate(tree):
                if node[0] == "fields":
                    members = value_of(text[node[1]:node[2]])[1]
                    names = [name for name, value in members]
                    for name in names:
                        self.assertEqual(member(row, tree, i, name), item(tree, i, names.index(name)))


class Handed(Case):
    def test_stays_and_each_list_is_new(self):
        row = list(b'{"a":[1,2]}')
        tree = nodes(row)
        name = [97]
        kept = list(row), list(tree), list(name)
        first, second = inner(tree, 2), inner(tree, 2)
        many(tree, 2), item(tree, 2, 0), member(row, tree, 0, name)
        self.assertRaises(NoNode, item, tree, 2, 9)
        self.assertEqual((row, tree, name), kept)
        self.assertIsNot(first, second)
        first.append(0)
        self.assertEqual(inner(tree, 2), [3, 4])
        self.assertIsNot(inner(tree, 3), inner(tree, 3))


if __name__ == "__main__":
    unittest.main()
