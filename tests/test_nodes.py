"""[3.1], held against the tests' second reading and against nodes told by hand."""

import inspect
import unittest

from plainglass.errors import Fault, GlassError
from plainglass.nodes import nodes
from tests.model import TEXTS, changed_rows, fault_of, made_texts, nodes_of


class Case(unittest.TestCase):
    def assert_nodes(self, row, expected):
        self.assertEqual(nodes(list(row)), expected, row)


class ByHand(Case):
    def test_arguments(self):
        self.assertEqual(list(inspect.signature(nodes).parameters), ["row"])

    def test_one_value(self):
        for row, kind in ((b"null", "null"), (b"true", "true"), (b"false", "false"), (b"0", "number"), (b"-1.5E+2", "number"),
                          (b'""', "text"), (b'"a\\"b"', "text"), (b"[]", "row"), (b"{}", "fields"), (b"[ \n]", "row"),
                          (b"{\t}", "fields"), (b'":"', "text"), (b'"\\\\"', "text")):
            self.assert_nodes(row, [(kind, 0, len(row), 1)])
            self.assert_nodes(b" \n" + row + b"\t ", [(kind, 2, 2 + len(row), 1)])

    def test_rows(self):
        self.assert_nodes(b"[1]", [("row", 0, 3, 2), ("number", 1, 2, 2)])
        self.assert_nodes(b"[ 1 , null ]", [("row", 0, 12, 3), ("number", 2, 3, 2), ("null", 6, 10, 3)])
        self.assert_nodes(b"[[],[[]],0]", [("row", 0, 11, 5), ("row", 1, 3, 2), ("row", 4, 8, 4), ("row", 5, 7, 4),
                                           ("number", 9, 10, 5)])

    def test_fields(self):
        self.assert_nodes(b'{"a":1}', [("fields", 0, 7, 3), ("name", 1, 4, 3), ("number", 5, 6, 3)])
        self.assert_nodes(b'{ "a" : "b" , "a" : { } }', [("fields", 0, 25, 5), ("name", 2, 5, 3), ("text", 8, 11, 3),
                                                         ("name", 14, 17, 5), ("fields", 20, 23, 5)])

    def test_a_name_goes_on_behind_its_value(self):
        self.assert_nodes(b'{"a":[1,{"b":2}],"c":3}', [
            ("fields", 0, 23, 9), ("name", 1, 4, 7), ("row", 5, 16, 7), ("number", 6, 7, 4), ("fields", 8, 15, 7),
            ("name", 9, 12, 7), ("number", 13, 14, 7), ("name", 17, 20, 9), ("number", 21, 22, 9)])

    def test_names_and_texts_that_look_alike(self):
        self.assert_nodes(b'{":":":"}', [("fields", 0, 9, 3), ("name", 1, 4, 3), ("text", 5, 8, 3)])
        self.assert_nodes(b'["a",{"a"\n:\r"a"}]', [("row", 0, 17, 5), ("text", 1, 4, 2), ("fields", 5, 16, 5),
                                                   ("name", 6, 9, 5), ("text", 12, 15, 5)])

    def test_the_deepest(self):
        tree = nodes(list(b"[" * 64 + b"]" * 64))
        self.assertEqual(tree, [("row", i, 128 - i, 64) for i in range(64)])

    def test_numbers_end_where_they_end(self):
        self.assert_nodes(b'[1,2 ,3\n,{"a":4},5]', [
            ("row", 0, 19, 8), ("number", 1, 2, 2), ("number", 3, 4, 3), ("number", 6, 7, 4), ("fields", 9, 16, 7),
            ("name", 10, 13, 7), ("number", 14, 15, 7), ("number", 17, 18, 8)])


class BySecondReading(Case):
    def test_texts(self):
        for text in TEXTS + tuple(made_texts(500)):
            self.assert_nodes(text, nodes_of(text))

    def test_kinds_of_what_is_given(self):
        for text in TEXTS:
            tree = nodes(list(text))
            self.assertIs(type(tree), list)
            for node in tree:
                self.assertEqual([type(node)] + [type(part) for part in node], [tuple, str, int, int, int])


class Refusals(Case):
    def assert_refused(self, row, at):
        with self.assertRaises(Fault) as caught:
            nodes(list(row))
        self.assertEqual(caught.exception.at, at, row)
        self.assertIsInstance(caught.exception, GlassError)

    def test_by_hand(self):
        for row, at in ((b"", 0), (b" ", 1), (b"[", 1), (b"[1,]", 3), (b'{"a"}', 4), (b"nul", 3), (b"1 2", 2), (b'"', 1),
                        (b'"\\ud800"', 7), (b"[" * 65 + b"]" * 65, 64), (b"\xff", 0)):
            self.assert_refused(row, at)

    def test_one_byte_changed(self):
        for text in TEXTS[:38:2] + tuple(made_texts(5, seed=4)):
            for row in changed_rows(text):
                at = fault_of(row)
                if at is None:
                    self.assert_nodes(row, nodes_of(row))
                else:
                    self.assert_refused(row, at)


class Handed(Case):
    def test_stays_and_each_list_is_new(self):
        row = list(b'[1,{"a":[]}]')
        kept = list(row)
        first, second = nodes(row), nodes(row)
        self.assertEqual(row, kept)
        self.assertIsNot(first, second)
        first.clear()
        self.assertEqual(nodes(row), second)
        row.clear()
        self.assertEqual(second, nodes_of(kept))


if __name__ == "__main__":
    unittest.main()
