"""[2.1], [2.2] and [2.3], held against the tests' second reading and against places told by hand."""

import inspect
import unittest

from plainglass.grammar import fault
from tests.model import TEXTS, changed_rows, fault_of, made_texts, nodes_of, short_rows

# No text goes on with these anywhere outside its own texts.
NEVER = (0, 1, 11, 12, 33, 39, 59, 127, 160, 239, 255)


class Case(unittest.TestCase):
    def assert_text(self, row):
        self.assertIsNone(fault(list(row)), row)

    def assert_fault(self, row, at):
        self.assertEqual(fault(list(row)), at, row)
        self.assertIs(type(fault(list(row))), int)


class Interface(Case):
    def test_arguments(self):
        self.assertEqual(list(inspect.signature(fault).parameters), ["row"])


class Texts(Case):
    def test_every_kind(self):
        for text in TEXTS:
            self.assert_text(text)

    def test_made_ones(self):
        for text in made_texts(500):
            self.assert_text(text)

    def test_white_bytes_round_everything(self):
        for white in (b" ", b"\t", b"\n", b"\r", b" \t\r\n "):
            pieces = (b"", b"{", b'"a"', b":", b"[", b"1", b",", b"null", b",", b"[", b"]", b"]", b",", b'"b"', b":", b"{",
                      b"}", b"}", b"")
            self.assert_text(white.join(pieces))
            for piece in (b"0", b"-1.5e3", b"true", b'""', b"[]", b"{}"):
                self.assert_text(white + piece + white)

    def test_white_bytes_where_none_may_stand(self):
        for row, at in ((b"- 1", 1), (b"1 .5", 2), (b"1. 5", 2), (b"1 e5", 2), (b"1e 5", 2), (b"1e+ 5", 3), (b"nu ll", 2),
                        (b'"\\ n"', 2), (b'"\\u 0000"', 3), (b"1 2", 2), (b'"\t"', 1), (b'"\n"', 1), (b'"\r"', 1)):
            self.assert_fault(row, at)
        self.assert_text(b'" "')


class Cut(Case):
    def test_every_kind_cut_anywhere(self):
        for text in TEXTS + tuple(made_texts(150)):
            for size in range(len(text)):
                if fault_of(text[:size]) is None:
                    self.assert_text(text[:size])
                else:
                    self.assert_fault(text[:size], size)

    def test_cut_texts_that_are_texts(self):
        for row in (b"1", b"12", b"12.5", b"12.5e1", b"12.5e10", b"0", b"-0", b"null ", b"[] \n"):
            self.assert_text(row)

    def test_an_empty_row_and_white_ones(self):
        self.assert_fault(b"", 0)
        self.assert_fault(b" ", 1)
        self.assert_fault(b"\n\t\r ", 4)


class Wrong(Case):
    def test_a_byte_ahead_of_a_node_or_behind_it(self):
        for text in TEXTS + tuple(made_texts(50)):
            for kind, at, end, after in nodes_of(text):
                for byte in NEVER:
                    self.assert_fault(text[:at] + bytes([byte]) + text[at:], at)
                    self.assert_fault(text[:end] + bytes([byte]) + text[end:], end)

    def test_words_gone_wrong(self):
        for word in (b"null", b"true", b"false"):
            for size in range(1, len(word)):
                for byte in range(256):
                    if byte != word[size]:
                        self.assert_fault(word[:size] + bytes([byte]) + word[size + 1:], size)
            for byte in range(256):
                if byte not in b" \t\n\r":
                    self.assert_fault(word + bytes([byte]), len(word))
        for row, at in ((b"Null", 0), (b"TRUE", 0), (b"NaN", 0), (b"Infinity", 0), (b"-Infinity", 1), (b"nul", 3)):
            self.assert_fault(row, at)

    def test_numbers(self):
        for row in (b"0", b"-0", b"5", b"-5", b"10", b"1234567890", b"0.0", b"0.10", b"-7.25", b"1e0", b"1E0", b"1e+5",
                    b"1e-5", b"1E+05", b"1e-00", b"0e0", b"12.50E-12", b"9" * 4000):
            self.assert_text(row)
            self.assert_text(b"[" + row + b"," + row + b"]")

    def test_wrong_numbers(self):
        for row, at in ((b"01", 1), (b"-01", 2), (b"00", 1), (b"-", 1), (b"--1", 1), (b"-a", 1), (b"+1", 0), (b".5", 0),
                        (b"-.5", 1), (b"1.", 2), (b"1.e1", 2), (b"1..5", 2), (b"1.5.", 3), (b"1e", 2), (b"1E", 2),
                        (b"1e+", 3), (b"1e-", 3), (b"1e+-1", 3), (b"1ee1", 2), (b"1e1.5", 3), (b"1e1e", 3), (b"1-", 1),
                        (b"1+1", 1), (b"0x1", 1), (b"1a", 1), (b"1_0", 1), (b"1,", 1), (b"[01]", 2), (b"[1.]", 3),
                        (b"[-]", 2), (b"[1e]", 3), (b"[1e+]", 4), (b"[.5]", 1), (b"[+1]", 1)):
            self.assert_fault(row, at)

    def test_every_short_number(self):
        for row in short_rows(b"-+.eE01", 5):
            self.assertEqual(fault(list(row)), fault_of(row), row)

    def test_every_short_row_and_fields(self):
        for row in short_rows(b'[]{},:"1 ', 4):
            self.assertEqual(fault(list(row)), fault_of(row), row)

    def test_one_byte_changed(self):
        for text in TEXTS[:40] + tuple(made_texts(10, seed=3)):
            for row in changed_rows(text):
                self.assertEqual(fault(list(row)), fault_of(row), row)

    def test_bytes_behind_a_text(self):
        for text in TEXTS:
            text = text.rstrip() + b" "
            for byte in b'1"[]{},:nx\x00\xff':
                self.assert_fault(text + bytes([byte]), len(text))

    def test_rows_and_fields_gone_wrong(self):
        for row, at in ((b"[,", 1), (b"[1,]", 3), (b"[1,,", 3), (b"[1 2", 3), (b"[1}", 2), (b"[:", 1), (b"]", 0), (b"}", 0),
                        (b",", 0), (b":", 0), (b"{1", 1), (b"{,", 1), (b"{null", 1), (b'{"a"}', 4), (b'{"a",', 4),
                        (b'{"a":}', 5), (b'{"a":,', 5), (b'{"a":1,}', 7), (b'{"a":1]', 6), (b'{"a"::', 5),
                        (b'{"a":1 "b"', 7), (b'{"a":1:', 6), (b"{]", 1), (b"{[", 1)):
            self.assert_fault(row, at)


class InTexts(Case):
    def test_every_byte_alone(self):
        for byte in range(256):
            row = b'"' + bytes([byte]) + b'"'
            if byte in b'"':
                self.assert_fault(row, 2)
            elif byte in b"\\":
                self.assert_fault(row, 3)
            elif byte < 32 or 128 <= byte < 194 or byte > 244:
                self.assert_fault(row, 1)
            elif byte >= 128:
                self.assert_fault(row, 2)
            else:
                self.assert_text(row)

    def test_bytes_that_are_no_characters(self):
        for row, at in ((b"\x80", 0), (b"\xbf", 0), (b"\xc0\x80", 0), (b"\xc1\xbf", 0), (b"\xc3(", 1), (b"\xe0\x9f\xbf", 1),
                        (b"\xe2\x82(", 2), (b"\xed\xa0\x80", 1), (b"\xed\xbf\xbf", 1), (b"\xf0\x8f\xbf\xbf", 1),
                        (b"\xf0\x9f\x98(", 3), (b"\xf4\x90\x80\x80", 1), (b"\xf5\x80\x80\x80", 0), (b"\xff", 0)):
            for ahead in (b'"', b'["', b'{"', b'"\xc3\xa9a\\n', b'{"a":"'):
                self.assert_fault(ahead + row + b'"', len(ahead) + at)

    def test_every_escape(self):
        for byte in range(256):
            row = b'"\\' + bytes([byte]) + b'"'
            if byte in b'"\\/bfnrt':
                self.assert_text(row)
            else:
                self.assert_fault(row, 3 if byte == ord("u") else 2)

    def test_figures_of_escapes(self):
        self.assert_text(b'"\\u0123\\u4567\\u89ab\\ucdef\\uABCD\\uEF00"')
        for size in range(4):
            for byte in range(256):
                if byte not in b"0123456789abcdefABCDEF":
                    self.assert_fault(b'"\\u' + b"0" * size + bytes([byte]), 3 + size)

    def test_pairs(self):
        for row in (b"\\ud800\\udc00", b"\\uDBFF\\uDFFF", b"\\uda12\\uDe34\\ud83d\\ude00", b"a\\ud800\\udc00b"):
            self.assert_text(b'"' + row + b'"')
            self.assert_text(b'{"' + row + b'":0}')
            for size in range(len(row)):
                self.assert_fault(b'"' + row[:size], 1 + size)

    def test_alone_and_the_wrong_way_round(self):
        for row, at in ((b'"\\ud800"', 7), (b'"\\udbff', 7), (b'"\\ud800a', 7), (b'"\\ud800\\n"', 8), (b'"\\ud800 \\udc00"', 7),
                        (b'"\\ud800\\u0041"', 9), (b'"\\ud800\\ue000"', 9), (b'"\\ud800\\ud7ff"', 10),
                        (b'"\\ud800\\ud800"', 10), (b'"\\ud800\\udbff"', 10), (b'"\\udc00"', 4), (b'"\\udfff\\ud800"', 4),
                        (b'"\\ud800\\udc00\\udc00"', 16), (b'"\\uDC00\\uD800"', 4)):
            self.assert_fault(row, at)

    def test_every_number_an_escape_writes(self):
        for number in list(range(0xd700, 0xe100)) + [0, 0xffff]:
            at = 7 if 0xd800 <= number < 0xdc00 else 4 if 0xdc00 <= number < 0xe000 else None
            self.assertEqual(fault(list(b'"\\u%04x"' % number)), at)
            self.assertEqual(fault(list(b'"\\u%04X"' % number)), at)


class Depth(Case):
    def test_sixty_four(self):
        self.assert_text(b"[" * 64 + b"]" * 64)
        self.assert_text(b'{"":' * 63 + b"{}" + b"}" * 63)
        self.assert_text(b'[{"":' * 32 + b"0" + b"}]" * 32)
        self.assert_text(b'{"":[' * 32 + b"]}" * 32)
        self.assert_text(b"[" * 63 + b"[],{},[1]" + b"]" * 63)

    def test_sixty_five(self):
        self.assert_fault(b"[" * 65 + b"]" * 65, 64)
        self.assert_fault(b"[" * 64 + b"{}" + b"]" * 64, 64)
        self.assert_fault(b'{"":' * 64 + b"{}" + b"}" * 64, 256)
        self.assert_fault(b'[{"":' * 32 + b"[]" + b"}]" * 32, 160)
        self.assert_fault(b'{"":[' * 32 + b"{}" + b"]}" * 32, 160)
        self.assert_fault(b" [" * 64 + b"[", 128)
        self.assert_fault(b"[" * 63 + b"[],[],[[", 70)

    def test_a_bracket_ended_is_no_more(self):
        self.assert_text(b"[" + b",".join([b"[" * 63 + b"]" * 63] * 20) + b"]")

    def test_brackets_in_texts_are_none(self):
        self.assert_text(b"[" * 64 + b'"[[{{"' + b"]" * 64)


class Handed(Case):
    def test_stays(self):
        for row in ([91, 49, 93], [91, 49], [255], []):
            kept = list(row)
            fault(row)
            self.assertEqual(row, kept)

    def test_longest(self):
        self.assert_text(b"[" + b"1," * 1998 + b"12]")
        self.assert_fault(b"[" + b"1," * 1999 + b"]", 3999)
        self.assert_fault(b'"' + b"a" * 3999, 4000)


if __name__ == "__main__":
    unittest.main()
