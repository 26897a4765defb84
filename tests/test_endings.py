"""[2.4], held against every shorter row and every one that comes first, and against endings told by hand."""

import inspect
import unittest

from plainglass.endings import ending
from plainglass.errors import Fault, GlassError
from tests.model import TEXTS, changed_rows, fault_of, made_texts


# Whether a row is the beginning of some JSON text, or one.
def begins(row):
    return fault_of(row) in (None, len(row))


# Rows of so many of these signs behind a row, as far as they go on with it.
def goes_on(row, count, signs):
    if count == 0:
        yield row
        return
    for sign in signs:
        longer = row + bytes([sign])
        if begins(longer):
            yield from goes_on(longer, count - 1, signs)


class Case(unittest.TestCase):
    def assert_ending(self, row, expected):
        self.assertEqual(bytes(ending(list(row))), expected, row)
        self.assertIsNone(fault_of(row + expected))

    def assert_makes_a_text(self, row):
        rest = ending(list(row))
        self.assertIs(type(rest), list)
        self.assertIsNone(fault_of(row + bytes(rest)), row)
        if fault_of(row) is None:
            self.assertEqual(rest, [])

    # None of these rows is a JSON text.
    def assert_no_texts(self, rows):
        for row in rows:
            self.assertIsNotNone(fault_of(row), row)

    # Of rows of these signs.
    def assert_none_shorter(self, row, signs):
        for count in range(len(ending(list(row)))):
            self.assert_no_texts(goes_on(row, count, signs))

    # Up to each byte of the ending the same, then a lesser one, then these signs.
    def assert_none_first(self, row, signs):
        rest = bytes(ending(list(row)))
        for size, byte in enumerate(rest):
            for lesser in range(byte):
                changed = row + rest[:size] + bytes([lesser])
                if begins(changed):
                    self.assert_no_texts(goes_on(changed, len(rest) - size - 1, signs))


class Interface(Case):
    def test_arguments(self):
        self.assertEqual(list(inspect.signature(ending).parameters), ["row"])


class AtEveryCut(Case):
    def test_makes_a_text(self):
        for text in TEXTS + tuple(made_texts(300)):
            for size in range(len(text) + 1):
                self.assert_makes_a_text(text[:size])

    def test_no_shorter_and_none_that_comes_first(self):
        for text in TEXTS[:38]:
            for size in range(len(text) + 1):
                row = text[:size]
                if len(ending(list(row))) <= 2:
                    self.assert_none_shorter(row, range(256))
                    self.assert_none_first(row, range(256))

    def test_longer_ones(self):
        for row in (b'{"', b'{"a', b'{"a"', b'{ ', b'{"a":1,', b"[[[", b"[1,[2,", b'"\\u', b'"\\u0', b'"\\ud', b'"\\uD8',
                    b'"\\ud800\\ud', b'"\xf0', b'["\xe2', b"n", b"fa", b'[{"a":[', b'{"a":'):
            signs = b'"0:}]\\uCDlse\x80\xa0'
            self.assert_none_shorter(row, signs)
            self.assert_none_first(row, signs)

    def test_no_shorter_than_the_brackets_ask(self):
        for text in TEXTS[40:]:
            for size in range(len(text) + 1):
                self.assertGreaterEqual(len(ending(list(text[:size]))), unended(text[:size]))


# How many brackets are begun and not ended; the texts asked have none in their texts.
def unended(row):
    return row.count(b"[") + row.count(b"{") - row.count(b"]") - row.count(b"}")


class ByHand(Case):
    def test_nothing_begun(self):
        for row in (b"", b" ", b"\n\t\r "):
            self.assert_ending(row, b"0")

    def test_texts(self):
        for text in TEXTS:
            self.assert_ending(text, b"")
            self.assert_ending(text + b" \n", b"")

    def test_words(self):
        for word in (b"null", b"true", b"false"):
            for size in range(1, len(word) + 1):
                self.assert_ending(word[:size], word[size:])
                self.assert_ending(b"[" + word[:size], word[size:] + b"]")
                self.assert_ending(b'{"":' + word[:size], word[size:] + b"}")

    def test_numbers(self):
        for row, rest in ((b"-", b"0"), (b"-1", b""), (b"0", b""), (b"12", b""), (b"1.", b"0"), (b"1.5", b""), (b"1e", b"0"),
                          (b"1E", b"0"), (b"1e+", b"0"), (b"1e-", b"0"), (b"1e-0", b""), (b"-0.", b"0"), (b"1.5e", b"0")):
            self.assert_ending(row, rest)
            self.assert_ending(b"[" + row, rest + b"]")
            self.assert_ending(b'{"":[' + row, rest + b"]}")

    def test_characters(self):
        for row, rest in ((b"", b""), (b"a", b""), (b"\xc2", b"\x80"), (b"\xdf", b"\x80"), (b"\xe0", b"\xa0\x80"),
                          (b"\xe0\xa0", b"\x80"), (b"\xe1", b"\x80\x80"), (b"\xed", b"\x80\x80"), (b"\xed\x9f", b"\x80"),
                          (b"\xef", b"\x80\x80"), (b"\xf0", b"\x90\x80\x80"), (b"\xf0\x9f", b"\x80\x80"),
                          (b"\xf0\x9f\x98", b"\x80"), (b"\xf1", b"\x80\x80\x80"), (b"\xf4", b"\x80\x80\x80"),
                          (b"\xf4\x8f", b"\x80\x80")):
            for ahead, behind in ((b'"', b'"'), (b'["', b'"]'), (b'{"', b'":0}'), (b'{"a":"\\n', b'"}')):
                self.assert_ending(ahead + row, rest + behind)

    def test_escapes(self):
        for row, rest in ((b"\\", b'"'), (b"\\n", b""), (b"\\\\", b""), (b"\\u", b"0000"), (b"\\u1", b"000"), (b"\\u12", b"00"),
                          (b"\\u123", b"0"), (b"\\u1234", b""), (b"\\ud", b"000"), (b"\\uD", b"000"), (b"\\ud7", b"00"),
                          (b"\\ue", b"000")):
            for ahead, behind in ((b'"', b'"'), (b'["a', b'"]'), (b'{"', b'":0}')):
                self.assert_ending(ahead + row, rest + behind)

    def test_pairs_of_escapes(self):
        for whole in (b"\\uD800\\uDC00", b"\\ud800\\udc00", b"\\uDbFf\\udFfF"):
            for size in range(4, len(whole) + 1):
                least = b"\\uD800\\uDC00"
                self.assert_ending(b'"' + whole[:size], least[size:] + b'"')
        self.assert_ending(b'"\\uda', b'00\\uDC00"')
        self.assert_ending(b'"\\ud83d\\u', b'DC00"')
        self.assert_ending(b'{"\\ud83d\\ud', b'C00":0}')

    def test_open_rows(self):
        for row, rest in ((b"[", b"]"), (b"[ ", b"]"), (b"[1", b"]"), (b"[1 ", b"]"), (b"[1,", b"0]"), (b"[1, ", b"0]"),
                          (b"[[", b"]]"), (b"[[],", b"0]"), (b"[1,[2,", b"0]]"), (b"[]", b""), (b'["', b'"]'), (b'["a"', b"]")):
            self.assert_ending(row, rest)

    def test_open_fields(self):
        for row, rest in ((b"{", b"}"), (b"{ ", b"}"), (b'{"', b'":0}'), (b'{"a', b'":0}'), (b'{"a"', b":0}"), (b'{"a" ', b":0}"),
                          (b'{"a":', b"0}"), (b'{"a": ', b"0}"), (b'{"a":1', b"}"), (b'{"a":1 ', b"}"), (b'{"a":1,', b'"":0}'),
                          (b'{"a":1, ', b'"":0}'), (b'{"a":{', b"}}"), (b'{"a":[', b"]}"), (b'[{"a":1,"', b'":0}]'),
                          (b"{}", b"")):
            self.assert_ending(row, rest)

    def test_the_deepest(self):
        self.assert_ending(b"[" * 64, b"]" * 64)
        self.assert_ending(b"[" * 64 + b"1,", b"0" + b"]" * 64)
        self.assert_ending(b'{"":' * 64, b"0" + b"}" * 64)
        self.assert_ending(b'[{"":' * 32, b"0" + b"}]" * 32)


class Refusals(Case):
    def assert_refused(self, row, at):
        with self.assertRaises(Fault) as caught:
            ending(list(row))
        self.assertEqual(caught.exception.at, at, row)
        self.assertIsInstance(caught.exception, GlassError)

    def test_by_hand(self):
        for row, at in ((b"x", 0), (b"nulL", 3), (b"01", 1), (b"1 2", 2), (b"[1,]", 3), (b'{"a" 1', 5), (b'"\n', 1),
                        (b'"\\udc', 4), (b'"\xff"', 1), (b"[" * 65, 64), (b"[]]", 2)):
            self.assert_refused(row, at)
            self.assert_refused(row + b"zz", at)

    def test_one_byte_changed(self):
        for text in TEXTS[:38:2]:
            for row in changed_rows(text):
                at = fault_of(row)
                if at is not None and at < len(row):
                    self.assert_refused(row, at)
                else:
                    self.assert_makes_a_text(row)


class Handed(Case):
    def test_stays_and_is_not_given_back(self):
        for row in ([], [49], [91, 34]):
            kept = list(row)
            first, second = ending(row), ending(row)
            self.assertEqual(row, kept)
            self.assertIsNot(first, row)
            self.assertIsNot(first, second)
            first.append(0)
            self.assertEqual(ending(row), second)


if __name__ == "__main__":
    unittest.main()
