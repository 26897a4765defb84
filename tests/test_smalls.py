"""[8.3], held against regular expressions, which part the bytes in texts and the rest."""

import inspect
import re
import unittest

from plainglass.smalls import marks, small
from tests.model import TEXTS, changed_rows, made_texts, nodes_of, short_rows, value_of

# A text, ended or not; a white byte; a sign by itself; a run.
TOKENS = re.compile(rb'(?P<text>"(?:[^"\\]|\\[\x00-\xff])*(?:"|\\?\Z))|(?P<white>[ \t\n\r])|(?P<sign>[{}\[\]:,])|'
                    rb'(?P<run>[^ \t\n\r{}\[\]:,"]+)')


def tokens(row):
    at = 0
    while at < len(row):
        token = TOKENS.match(row, at)
        yield token.lastgroup, at, token.group()
        at = token.end()


class Case(unittest.TestCase):
    def assert_both(self, row):
        found, places = small(list(row)), marks(list(row))
        self.assertEqual(bytes(found), b"".join([words for kind, at, words in tokens(row) if kind != "white"]), row)
        self.assertEqual(places, [at for kind, at, words in tokens(row) if kind != "white"], row)
        self.assertEqual((type(found), type(places)), (list, list))
        self.assertEqual(places, sorted(set(places)))


class ByHand(Case):
    def test_arguments(self):
        for function in (small, marks):
            self.assertEqual(list(inspect.signature(function).parameters), ["row"])

    def test_small(self):
        for row, expected in ((b"", b""), (b" \t\n\r", b""), (b"[ 1 , 2 ]", b"[1,2]"), (b'{ "a b" : " \\" " }', b'{"a b":" \\" "}'),
                              (b'" ', b'" '), (b'"a" "b" c', b'"a""b"c'), (b'\\" a \\" ', b'\\" a \\" '), (b'"\\\\" x', b'"\\\\"x'),
                              (b'"\\', b'"\\'), (b'"\\" ', b'"\\" '), (b"a \\ b", b"a\\b"), (b"\xff \x00", b"\xff\x00"), (b"a\x0bb\x0c", b"a\x0bb\x0c")):
            self.assertEqual(bytes(small(list(row))), expected)

    def test_marks(self):
        for row, expected in ((b"", []), (b"  ", []), (b"null", [0]), (b" -1.5 ", [1]), (b"[1, 23 ]", [0, 1, 2, 4, 7]), (b"a b", [0, 2]),
                              (b'{"a":true}', [0, 1, 4, 5, 9]), (b'"[{,:"', [0]), (b'a"b"c', [0, 1, 4]), (b'"a""b"', [0, 3]), (b'"a', [0]),
                              (b'"\\"', [0]), (b'"\\"" x', [0, 5]), (b'\\"a"', [0, 1]), (b"\\\\", [0]), (b"a:b", [0, 1, 2]), (b"}{", [0, 1]),
                              (b'""', [0]), (b'"', [0]), (b"a\\", [0]), (b'"a\\', [0]), (b"\xff\x00 \x80", [0, 3])):
            self.assertEqual(marks(list(row)), expected)


class AllBytes(Case):
    def test_every_short_row(self):
        for row in short_rows(b'"\\ ,a[', 6):
            self.assert_both(row)

    def test_every_byte_between_others(self):
        for byte in range(256):
            for frame in ((b"", b""), (b"a", b"a"), (b'"', b'"'), (b'"\\', b' " '), (b" ", b" "), (b"[", b"]"), (b'"a"', b" b")):
                self.assert_both(frame[0] + bytes([byte]) + frame[1])

    def test_texts_and_what_is_nearly_one(self):
        for text in TEXTS + tuple(made_texts(200)):
            self.assert_both(text)
            self.assertEqual(value_of(small(list(text))), value_of(text))
            for size in range(len(text)):
                self.assert_both(text[:size])
        for text in TEXTS[20:38:3]:
            for row in changed_rows(text):
                self.assert_both(row)

    def test_every_node_begins_at_a_mark(self):
        for text in TEXTS + tuple(made_texts(200)):
            places = marks(list(text))
            begins = [node[1] for node in nodes_of(text)]
            self.assertEqual(set(begins) - set(places), set())
            self.assertEqual(len(places), len(small_signs(text)) + len(begins) - brackets(text))


# The signs outside of texts that are one of { } [ ] : , in a text.
def small_signs(text):
    return [words for kind, at, words in tokens(text) if kind == "sign"]


# How many of these are the first of a row or of fields.
def brackets(text):
    return len([words for words in small_signs(text) if words in b"[{"])


class Handed(Case):
    def test_stays_and_each_list_is_new(self):
        for row in ([], [97], [91, 32, 93], [34, 32]):
            kept = list(row)
            for function in (small, marks):
                first, second = function(row), function(row)
                self.assertEqual(row, kept)
                self.assertIsNot(first, second)
                self.assertIsNot(first, row)
                first.append(0)
                self.assertEqual(function(row), second)


if __name__ == "__main__":
    unittest.main()
