"""[8.2]."""

import inspect
import unittest

from plainglass.lines import line
from tests.model import made_texts, short_rows


class Line(unittest.TestCase):
    def assert_line(self, row, at, expected):
        found = line(list(row), at)
        self.assertEqual(found, expected)
        self.assertEqual([type(found)] + [type(part) for part in found], [tuple, int, int])

    def test_arguments(self):
        self.assertEqual(list(inspect.signature(line).parameters), ["row", "at"])

    def test_by_hand(self):
        self.assert_line(b"", 0, (1, 1))
        for at, expected in enumerate(((1, 1), (1, 2), (1, 3), (2, 1), (2, 2), (3, 1), (4, 1), (4, 2))):
            self.assert_line(b"ab\nc\n\nd", at, expected)
        for at, expected in enumerate(((1, 1), (2, 1), (3, 1))):
            self.assert_line(b"\n\n", at, expected)

    def test_other_white_bytes_end_no_line(self):
        for at in range(9):
            self.assert_line(b"a\rb\tc d\x0b\x0c", at, (1, at + 1))
        self.assert_line(b"a\r\nb", 2, (1, 3))
        self.assert_line(b"a\r\nb", 3, (2, 1))

    # Columns are counted in bytes, not in characters.
    def test_bytes_of_characters(self):
        self.assert_line("\u20ac\n\u20aca".encode(), 7, (2, 4))

    def test_every_place(self):
        for row in list(short_rows(b"\na", 6)) + made_texts(50) + [b"\n" * 4000, b"a" * 3999 + b"\n"]:
            for at in range(0, len(row) + 1, 1 if len(row) < 1000 else 333):
                ahead = row[:at].split(b"\n")
                self.assert_line(row, at, (len(ahead), len(ahead[-1]) + 1))
            ahead = row.split(b"\n")
            self.assert_line(row, len(row), (len(ahead), len(ahead[-1]) + 1))

    def test_handed(self):
        row = [97, 10, 97]
        line(row, 2)
        self.assertEqual(row, [97, 10, 97])


if __name__ == "__main__":
    unittest.main()
