import json
import unittest

from plainglass import signs


class Names(unittest.TestCase):
    def test_each_names_its_sign(self):
        for name, sign in (
            ("LINE_END", "\n"), ("BLANK", " "), ("QUOTE", '"'), ("PLUS", "+"), ("COMMA", ","), ("MINUS", "-"),
            ("POINT", "."), ("SLASH", "/"), ("NOUGHT", "0"), ("NINE", "9"), ("COLON", ":"), ("BIG_E", "E"),
            ("ROW_BEGIN", "["), ("BACKSLASH", "\\"), ("ROW_END", "]"), ("SMALL_E", "e"), ("SMALL_U", "u"),
            ("FIELDS_BEGIN", "{"), ("FIELDS_END", "}"), ("TILDE", "~"),
        ):
            self.assertEqual(getattr(signs, name), ord(sign), name)


class Sorts(unittest.TestCase):
    def test_white(self):
        self.assertEqual([byte for byte in range(256) if signs.is_white(byte)], [9, 10, 13, 32])

    def test_figures(self):
        self.assertEqual([byte for byte in range(256) if signs.is_figure(byte)], list(b"0123456789"))

    def test_hexadecimal_figures(self):
        for byte in range(256):
            worth = int(chr(byte), 16) if byte in b"0123456789abcdefABCDEF" else None
            self.assertEqual(signs.hex_worth(byte), worth, byte)

    def test_words(self):
        rests = {word[0]: tuple(word[1:]) for word in (b"null", b"true", b"false")}
        for byte in range(256):
            self.assertEqual(signs.word_rest(byte), rests.get(byte), byte)

    def test_short_escapes(self):
        for byte in range(256):
            meaning = ord(json.loads(f'"\\{chr(byte)}"')) if byte in b'"\\/bfnrt' else None
            self.assertEqual(signs.short_escape(byte), meaning, byte)


if __name__ == "__main__":
    unittest.main()
