"""The walk over one JSON text. Python's own json says which short rows are texts."""

import itertools
import json
import unittest

from plainglass.walking import Walk


def walked(row):
    walk = Walk()
    return walk.take(list(row)), walk


# None for a JSON text, else how many bytes were taken.
def fault_of(row):
    count, walk = walked(row)
    return None if count == len(row) and walk.is_whole() else count


def is_json(row):
    try:
        json.loads(row)
    except ValueError:
        return False
    return True


class Case(unittest.TestCase):
    def assert_text(self, row):
        self.assertIsNone(fault_of(row), row)

    def assert_fault(self, row, at):
        self.assertEqual(fault_of(row), at, row)

    # Rows of these signs, at most so long, have the fault that the texts of at most the most signs tell.
    def assert_all_of(self, signs, longest, most):
        rows = [bytes(row) for size in range(most + 1) for row in itertools.product(signs, repeat=size)]
        texts = [row for row in rows if is_json(row)]
        beginnings = {text[:size] for text in texts for size in range(len(text) + 1)}
        for row in rows:
            if len(row) > longest:
                break
            expected = None if is_json(row) else max(k for k in range(len(row) + 1) if row[:k] in beginnings)
            self.assert_fault(row, expected)


class Short(Case):
    def test_rows(self):
        self.assert_all_of(b"[],1", 4, 8)

    def test_fields(self):
        self.assert_all_of(b'{}":,', 3, 8)

    def test_both_with_white(self):
        self.assert_all_of(b'[{]}1 ', 3, 6)

    def test_numbers(self):
        self.assert_all_of(b"-+.e01", 5, 6)

    def test_texts(self):
        self.assert_all_of(b'"\\b\n/', 4, 6)

    def test_single_bytes(self):
        self.assert_text(b"7")
        for byte in range(256):
            begins = byte in b'\t\n\r -0123456789"[{ntf'
            self.assert_fault([byte], (None if byte in b"0123456789" else 1) if begins else 0)


class Values(Case):
    def test_texts(self):
        for row in (
            b"null", b"true", b"false", b" null\t", b"\r\n true \n", b"0", b"-0", b"10", b"-12.50e+07", b"1E5", b"1e-5",
            b'""', b'"a b/"', b"[]", b"[ ]", b"[1]", b"[ 1 , [ ] , { } ]", b"{}", b"{\n}", b'{"a":1}',
            b'{ "a" : 1 , "a" : [ null ] }', b'"\\"\\\\\\/\\b\\f\\n\\r\\t\\u00e9\\uABcd"', "\"\u00e9\u20ac\U0001f600\"".encode(),
            b'"\x7f"', b'"\\ud7ff\\ue000"', b'"\\ud800\\udc00"', b'"\\uDBFF\\uDFFF\\uD83d\\uDe00"',
        ):
            self.assert_text(row)
            for size in range(len(row)):
                count, walk = walked(row[:size])
                self.assertEqual(count, size)

    def test_faults(self):
        for row, at in (
            (b"", 0), (b"  ", 2), (b"nul", 3), (b"nulL", 3), (b"nully", 4), (b"tru ", 3), (b"fals\xc3", 4), (b"1 2", 2),
            (b"01", 1), (b"-", 1), (b"-a", 1), (b"+1", 0), (b".5", 0), (b"1.", 2), (b"1.e", 2), (b"1e", 2), (b"1e+-", 3),
            (b"1e5.", 3), (b"1.5.", 3), (b"1 .", 2), (b"[", 1), (b"[,", 1), (b"[1,]", 3), (b"[1 2", 3), (b"[1}", 2),
            (b"[]]", 2), (b"{", 1), (b"{,", 1), (b"{1", 1), (b'{"a"', 4), (b'{"a",', 4), (b'{"a":}', 5), (b'{"a":1,}', 7),
            (b'{"a":1]', 6), (b'{"a" 1', 5), (b'"', 1), (b'"a', 2), (b'"\n', 1), (b'"\x1f', 1), (b"\x0c1", 0),
            (b"\xef\xbb\xbf1", 0), (b"1\x00", 1), (b"1\xc2\xa0", 1), (b"NaN", 0), (b"-Infinity", 1), (b"[1]\x0b", 3),
        ):
            self.assert_fault(row, at)

    def test_bytes_that_are_no_characters_in_a_text(self):
        for row, at in (
            (b'"\x80', 1), (b'"\xc0\x80"', 1), (b'"\xc3"', 2), (b'"\xc3', 2), (b'"\xe0\x9f', 2), (b'"\xed\xa0', 2),
            (b'"\xf0\x8f', 2), (b'"\xf4\x90', 2), (b'"\xf5', 1), (b'"\xf0\x9f\x98', 4), (b'"\xf0\x9f\x98"', 4),
            (b'{"\xe2\x82"', 4),
        ):
            self.assert_fault(row, at)

    def test_escapes(self):
        for byte in range(256):
            self.assert_fault([34, 92, byte], 3 if byte in b'"\\/bfnrtu' else 2)
        for byte in range(256):
            is_hex = byte in b"0123456789abcdefABCDEF"
            for ahead in (b'"\\u', b'"\\u0', b'"\\u00', b'"\\u000', b'"\\ud', b'"\\uD8', b'"\\ud80'):
                fits = is_hex and not (ahead == b'"\\ud' and byte in b"cdefCDEF")
                self.assert_fault([*ahead, byte], len(ahead) + fits)

    def test_pairs_of_escapes(self):
        for row, at in (
            (b'"\\ud8', 5), (b'"\\udc', 4), (b'"\\uDf', 4), (b'"\\ud800', 7), (b'"\\ud800"', 7), (b'"\\udbffa', 7),
            (b'"\\ud800\\', 8), (b'"\\ud800\\n', 8), (b'"\\ud800\\u', 9), (b'"\\ud800\\u0', 9), (b'"\\ud800\\ud8', 10),
            (b'"\\ud800\\udb', 10), (b'"\\ud800\\udc', 11), (b'"\\ud800\\udc0g', 12), (b'"\\ud800\\udc00\\udc', 16),
            (b'{"\\ud800":1}', 8),
        ):
            self.assert_fault(row, at)
        for figures in range(0xd7f0, 0xe010):
            at = 4 if 0xdc00 <= figures <= 0xdfff else 7 if 0xd800 <= figures <= 0xdbff else None
            self.assert_fault(b'"\\u%04x"' % figures, at)


class Depth(Case):
    def test_sixty_four_brackets(self):
        self.assert_text(b"[" * 64 + b"]" * 64)
        self.assert_text(b'{"":' * 64 + b"0" + b"}" * 64)
        self.assert_text(b'[{"":' * 32 + b"0" + b"}]" * 32)
        self.assert_text(b"[" + b"[" * 63 + b"]" * 63 + b"," + b"[" * 63 + b"]" * 63 + b"]")

    def test_one_more(self):
        self.assert_fault(b"[" * 65 + b"]" * 65, 64)
        self.assert_fault(b'{"":' * 64 + b"{", 256)
        self.assert_fault(b'[{"":' * 32 + b"[", 160)
        self.assert_fault(b"[" * 63 + b"[]," + b"[[", 67)

    def test_brackets_in_texts_and_names_are_none(self):
        self.assert_text(b"[" * 63 + b'{"[{":"[{"}' + b"]" * 63)
        self.assert_text(b'"' + b"[{" * 100 + b'"')


class Pieces(Case):
    def test_taken_byte_by_byte(self):
        row = b'[1, {"a": "\\ud83d\\ude00\xc3\xa9"}, -2.5e3 ]'
        walk = Walk()
        for byte in row:
            self.assertFalse(walk.is_whole())
            self.assertTrue(walk.goes_on(byte))
        self.assertTrue(walk.is_whole())
        self.assertFalse(walk.goes_on(ord("]")))

    def test_two_walks_stay_apart(self):
        one, other = Walk(), Walk()
        self.assertEqual((one.take([91]), other.take([49])), (1, 1))
        self.assertEqual((one.is_whole(), other.is_whole()), (False, True))

    def test_what_is_handed_in_stays_and_is_not_kept(self):
        row = [91, 49, 93]
        walk = Walk()
        self.assertEqual(walk.take(row), 3)
        self.assertEqual(row, [91, 49, 93])
        self.assertIsNot(walk.coming, row)

    def test_longest_rows(self):
        self.assert_text(b"[" + b"1," * 1999 + b"1]")
        self.assert_text(b"1" * 4000)
        self.assert_text(b" " * 3999 + b"1")
        self.assert_fault(b'"' + b"a" * 3999, 4000)


if __name__ == "__main__":
    unittest.main()
