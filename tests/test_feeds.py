"""[8.1]. The tests' second reading, text after text, says what is found and where a run goes wrong."""

import inspect
import itertools
import unittest

from plainglass.errors import Fault, GlassError
from plainglass.feeds import Feed
from tests.model import TEXTS, WHITE, Reader, Wrong, made_texts, short_rows, value_of

WRONG = "wrong"
OPEN = "open"


# The values found when these bytes have come, and what is then: (WRONG, at), OPEN within a text (a number that may be
# at its end is told too), or None.
def state(row, told_end=False):
    found = []
    at = 0
    apart = True
    while True:
        while at < len(row) and row[at] in WHITE:
            apart = apart or row[at] == 10
            at += 1
        if at == len(row):
            return found, None
        if not apart:
            return found, (WRONG, at)
        reader = Reader(row)
        reader.at = at
        try:
            value = reader.value()
        except Wrong as wrong:
            return found, (WRONG, wrong.at) if wrong.at < len(row) or told_end else OPEN
        if isinstance(value, tuple) and value[0] == "number":
            if reader.at == len(row) and not told_end:
                return found, OPEN
            if reader.at < len(row) and row[reader.at] not in WHITE:
                return found, (WRONG, reader.at)
        found.append(value)
        at, apart = reader.at, False


class Case(unittest.TestCase):
    # Takes a piece, and tells where the feed refused; None where it did not.
    def take(self, feed, piece):
        handed = list(piece)
        try:
            self.assertIsNone(feed.take(handed))
        except Fault as refusal:
            self.assertIsInstance(refusal, GlassError)
            return refusal.at
        finally:
            self.assertEqual(handed, list(piece))
            handed[:] = [120] * len(handed)
        return None

    def assert_pieces(self, pieces):
        feed = Feed()
        row = b""
        for piece in pieces:
            row += piece
            at = self.take(feed, piece)
            found, then = state(row)
            self.assertEqual(feed.found, found, pieces)
            if at is not None or (then and then[0] == WRONG):
                self.assertEqual((WRONG, at), then, pieces)
                return
        self.assert_end(feed, row)

    def assert_end(self, feed, row):
        found, then = state(row, told_end=True)
        if then is None:
            self.assertIsNone(feed.finish())
        else:
            with self.assertRaises(Fault) as caught:
                feed.finish()
            self.assertEqual((WRONG, caught.exception.at), then, row)
        self.assertEqual(feed.found, found)

    # In one piece, byte by byte, and cut in two at every place.
    def assert_run(self, row):
        self.assert_pieces([row])
        self.assert_pieces([bytes([byte]) for byte in row])
        for size in range(len(row) + 1):
            self.assert_pieces([row[:size], row[size:]])

    def assert_found(self, row, values, at=None):
        feed = Feed()
        self.assertEqual(self.take(feed, row), at)
        self.assertEqual(feed.found, [value_of(text) for text in values])
        return feed


class Interface(Case):
    def test_arguments(self):
        self.assertEqual(list(inspect.signature(Feed).parameters), [])
        self.assertEqual(list(inspect.signature(Feed.take).parameters), ["self", "piece"])
        self.assertEqual(list(inspect.signature(Feed.finish).parameters), ["self"])

    def test_a_new_one(self):
        self.assertEqual(Feed().found, [])
        self.assertIs(type(Feed().found), list)

    def test_both_give_none(self):
        feed = Feed()
        self.assertIsNone(feed.take([]))
        self.assertIsNone(feed.take([49]))
        self.assertIsNone(feed.finish())
        self.assertEqual(feed.found, [("number", 1, 0)])


class ByHand(Case):
    def test_no_texts(self):
        for row in (b"", b" ", b"\n\n", b" \t\r\n "):
            feed = self.assert_found(row, [])
            self.assertIsNone(feed.finish())
            self.assertEqual(feed.found, [])

    def test_found_as_soon_as_the_last_byte_has_come(self):
        for text in (b"null", b"true", b"false", b'""', b'"a\\""', b"[]", b"{}", b'{"a":[1]}', b"[1, 2 ]"):
            for ahead in (b"", b" \n", b"7\n"):
                before = [b"7"] if ahead == b"7\n" else []
                self.assert_found(ahead + text[:-1], before)
                self.assert_found(ahead + text, before + [text])
                self.assert_found(ahead + text + b" ", before + [text])

    def test_a_number_is_found_behind_a_white_byte(self):
        for text in (b"0", b"-12", b"1.5", b"1e5", b"1E-07", b"10"):
            self.assert_found(text, [])
            for white in (b" ", b"\t", b"\r", b"\n"):
                self.assert_found(text + white, [text])
            feed = self.assert_found(text, [])
            feed.finish()
            self.assertEqual(feed.found, [value_of(text)])
            feed = Feed()
            for byte in text:
                self.take(feed, bytes([byte]))
                self.assertEqual(feed.found, [])
            self.take(feed, b"\n")
            self.assertEqual(feed.found, [value_of(text)])

    def test_several(self):
        self.assert_found(b'1\n"a"\n[2]\n\n{}\r\nnull', [b"1", b'"a"', b"[2]", b"{}", b"null"])
        self.assert_found(b" 1 \n 2\n", [b"1", b"2"])
        self.assert_found(b"[\n1\n,\n2\n]\n3\n", [b"[1,2]", b"3"])

    def test_without_a_line_end_between(self):
        for row, values, at in ((b"1 2", [b"1"], 2), (b"1\t \r2", [b"1"], 4), (b"[] []", [b"[]"], 3), (b"[][]", [b"[]"], 2), (b'"a""b"', [b'"a"'], 3),
                                (b"nulltrue", [b"null"], 4), (b"null true", [b"null"], 5), (b'1"a"', [], 1), (b"1[", [], 1), (b"1,", [], 1),
                                (b"[]1", [b"[]"], 2), (b"1\n2 3", [b"1", b"2"], 4), (b"{} \n {}{}", [b"{}", b"{}"], 7), (b"[],", [b"[]"], 2)):
            self.assert_found(row, values, at)

    def test_a_byte_with_which_no_text_begins(self):
        for byte in b"x]},:.+EeNT\x00\x0b\x7f\x80\xef\xff":
            for ahead, values in ((b"", []), (b" \n", []), (b"1\n", [b"1"]), (b"[]\n ", [b"[]"]), (b"null\n\n", [b"null"])):
                self.assert_found(ahead + bytes([byte]), values, len(ahead))

    def test_gone_wrong_within_a_text(self):
        for row, values, at in ((b"nulL", [], 3), (b"[1,]", [], 3), (b"1\n[1,]", [b"1"], 5), (b"01", [], 1), (b"-\n", [], 1), (b"1. ", [], 2),
                                (b"1e\n", [], 2), (b'"\n', [], 1), (b'{"a"}', [], 4), (b"[" * 65, [], 64), (b'"\\udc', [], 4)):
            self.assert_found(row, values, at)

    def test_cut_short(self):
        for row, values in ((b"nul", []), (b"[", []), (b'1\n"', [b"1"]), (b"-", []), (b"1.", []), (b"1e+", []), (b'[]\n{"a":1', [b"[]"]), (b'"\xc3', [])):
            feed = self.assert_found(row, values)
            with self.assertRaises(Fault) as caught:
                feed.finish()
            self.assertEqual(caught.exception.at, len(row))
            self.assertEqual(feed.found, [value_of(text) for text in values])

    def test_places_over_all_pieces(self):
        feed = Feed()
        for piece in (b"1\n", b"", b"[2", b"]", b"\n\n"):
            self.assertIsNone(self.take(feed, piece))
        self.assertEqual(self.take(feed, b" x"), 8)
        self.assertEqual(feed.found, [value_of(b"1"), value_of(b"[2]")])

    def test_what_was_found_ahead_in_the_same_piece(self):
        self.assert_found(b"1\n[2]\n3 4\n5\n", [b"1", b"[2]", b"3"], 8)


class Runs(Case):
    def test_every_kind(self):
        for text in TEXTS[:40]:
            self.assert_run(text + b"\n" + text)
            self.assert_run(text + b" " + text)
            self.assert_run(text + text)

    def test_the_deepest(self):
        for text in TEXTS[40:]:
            for between in (b"\n", b" ", b""):
                self.assert_pieces([text + between + text])
                self.assert_pieces([text[:100], text[100:] + between, text])

    def test_kinds_behind_kinds(self):
        texts = (b"null", b"false", b"0", b"-1.5e3", b'"a\\u00e9"', b"[]", b'{"a":[1,2]}')
        for one, between, other in itertools.product(texts, (b"", b" ", b"\n", b" \r\n\t", b"\r", b"\n\n"), texts):
            self.assert_run(b"\n" + one + between + other)

    def test_made_ones(self):
        for texts in zip(made_texts(40, seed=21, depth=2), made_texts(40, seed=22, depth=2), made_texts(40, seed=23, depth=2)):
            self.assert_run(b"\n".join(texts))
            self.assert_run(b" ".join(texts))

    def test_every_short_row(self):
        for row in short_rows(b'[]1 \n"', 5):
            self.assert_pieces([row])
            self.assert_pieces([bytes([byte]) for byte in row])
        for row in short_rows(b"-1.e\n ", 5):
            self.assert_pieces([bytes([byte]) for byte in row])

    def test_cut_in_three_with_empty_pieces(self):
        row = b'{"a":"\\ud83d\\ude00\xc3\xa9"}\n-1.5e3\r\n[null,true] \n "x"\n7'
        for one in range(len(row) + 1):
            for other in range(one, len(row) + 1):
                self.assert_pieces([b"", row[:one], b"", row[one:other], row[other:], b""])

    def test_one_byte_changed(self):
        row = b'{"a":[1]}\n-1.5 \n"x" \n[]\n'
        for at in range(len(row)):
            for byte in b'x1"[]{},:-. \n\\\x00\xff':
                self.assert_pieces([row[:at] + bytes([byte]) + row[at + 1:]])
                self.assert_pieces([row[:at], bytes([byte]) + row[at:]])

    def test_many_values(self):
        self.assert_pieces([b"1\n" * 2000])
        self.assert_pieces([b"[]\n"] * 1000)

    def test_longer_than_a_row(self):
        self.assert_pieces([b"[", b"1," * 1500, b"1,", b"2," * 1500, b"3]"])


class Handed(Case):
    def test_two_feeds_know_nothing_of_one_another(self):
        one, other = Feed(), Feed()
        one.take(list(b"[1"))
        other.take(list(b'"a" '))
        self.assertEqual((one.found, other.found), ([], [value_of(b'"a"')]))
        self.assertRaises(Fault, other.take, list(b"1"))
        one.take(list(b"]\n2"))
        one.finish()
        self.assertEqual((one.found, other.found), ([value_of(b"[1]"), value_of(b"2")], [value_of(b'"a"')]))
        self.assertEqual(Feed().found, [])

    def test_pieces_stay_and_are_not_kept(self):
        feed = Feed()
        piece = list(b"[1,")
        feed.take(piece)
        self.assertEqual(piece, list(b"[1,"))
        piece.clear()
        piece.extend(b"2]\n")
        feed.take(piece)
        piece.clear()
        self.assertEqual(feed.found, [value_of(b"[1,2]")])

    def test_the_same_piece_twice(self):
        feed = Feed()
        piece = list(b"12\n3")
        feed.take(piece)
        feed.take(piece)
        feed.finish()
        self.assertEqual(feed.found, [value_of(text) for text in (b"12", b"312", b"3")])


if __name__ == "__main__":
    unittest.main()
