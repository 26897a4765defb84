"""[5.1] and [5.2]."""

import inspect
import itertools
import unittest

from plainglass.errors import GlassError, NoPointer, NotThere
from plainglass.nodes import nodes
from plainglass.pointers import node_there, parts, pointer, there
from tests.model import TEXTS, made_texts, places, value_of


def signs(words):
    return list(map(ord, words))


def names_of(*words):
    return [tuple(signs(word)) for word in words]


class Interface(unittest.TestCase):
    def test_arguments(self):
        for function, names in ((parts, "numbers"), (pointer, "names"), (there, "thing names"), (node_there, "row tree names")):
            self.assertEqual(list(inspect.signature(function).parameters), names.split())


class Parts(unittest.TestCase):
    def assert_parts(self, words, *expected):
        found = parts(signs(words))
        self.assertEqual(found, names_of(*expected), words)
        self.assertEqual([type(found)] + [type(part) for part in found], [list] + [tuple] * len(expected))

    def test_by_hand(self):
        self.assert_parts("")
        self.assert_parts("/", "")
        self.assert_parts("//", "", "")
        self.assert_parts("/a", "a")
        self.assert_parts("/a/b", "a", "b")
        self.assert_parts("/a//b/", "a", "", "b", "")
        self.assert_parts("/~0", "~")
        self.assert_parts("/~1", "/")
        self.assert_parts("/~01", "~1")
        self.assert_parts("/~10", "/0")
        self.assert_parts("/~0~0/~1~1", "~~", "//")
        self.assert_parts("/~00~11", "~0/1")
        self.assert_parts("/0/1/00/-", "0", "1", "00", "-")
        self.assert_parts("/\u00e9\U0001f600 \"\\\n\x00", "\u00e9\U0001f600 \"\\\n\x00")

    def test_no_pointers(self):
        for words in ("a", "a/b", "0", " /", "~", "~0", "~1/a", "#/a", "/~", "/a~", "/~/", "/~2", "/~~", "/~~0", "/~a", "/a/~", "/~/0",
                      "/a~2/b", "//~", "/~0~", "/~\u0661"):
            handed = signs(words)
            with self.assertRaises(NoPointer) as caught:
                parts(handed)
            self.assertIsInstance(caught.exception, GlassError)
            self.assertEqual(handed, signs(words))

    # A pointer is a list of characters, so numbers that are none make none.
    def test_numbers_that_are_no_characters(self):
        for number in (-1, 55296, 57343, 1114112):
            for numbers in ([number], [47, number], [47, 97, 47, number], [47, 126, number]):
                self.assertRaises(NoPointer, parts, numbers)

    def test_every_short_one(self):
        for size in range(6):
            for chosen in itertools.product("/~01a", repeat=size):
                words = "".join(chosen)
                pieces = words.split("/")
                tildes = words.count("~") == words.count("~0") + words.count("~1")
                if words and (pieces[0] or not tildes):
                    self.assertRaises(NoPointer, parts, signs(words))
                else:
                    self.assert_parts(words, *[piece.replace("~1", "/").replace("~0", "~") for piece in pieces[1:]])


class Pointer(unittest.TestCase):
    def assert_pointer(self, words, *names):
        for handed in (names_of(*names), tuple(names_of(*names))):
            found = pointer(handed)
            self.assertEqual("".join(map(chr, found)), words)
            self.assertIs(type(found), list)

    def test_by_hand(self):
        self.assert_pointer("")
        self.assert_pointer("/", "")
        self.assert_pointer("//", "", "")
        self.assert_pointer("/a/b", "a", "b")
        self.assert_pointer("/~0/~1/~01/~10", "~", "/", "~1", "/0")
        self.assert_pointer("/~0~1~0~1", "~/~/")
        self.assert_pointer("/\u00e9\U0001f600/0", "\u00e9\U0001f600", "0")

    def test_there_and_back(self):
        pieces = ["".join(chosen) for size in range(4) for chosen in itertools.product("/~0a", repeat=size)]
        for names in itertools.chain([()], [(piece,) for piece in pieces], itertools.product(pieces[:21], repeat=2)):
            handed = names_of(*names)
            self.assertEqual(parts(pointer(handed)), handed)
        for size in range(5):
            for chosen in itertools.product(("/", "~0", "~1", "a"), repeat=size):
                words = signs("/" + "".join(chosen))
                self.assertEqual(pointer(parts(words)), words)


class There(unittest.TestCase):
    # Where parts lead in a text, by both ways; None in a tuple where they lead to nothing.
    def led(self, text, names):
        row = list(text)
        tree = nodes(row)
        kept = list(row), list(tree), list(names)
        try:
            found = there(value_of(text), names)
        except NotThere as refusal:
            self.assertIsInstance(refusal, GlassError)
            self.assertRaises(NotThere, node_there, row, tree, names)
            return ()
        kind, at, end, after = tree[node_there(row, tree, names)]
        self.assertNotEqual(kind, "name")
        self.assertEqual(value_of(text[at:end]), found)
        self.assertEqual((row, tree, list(names)), kept)
        return (found,)

    def assert_leads(self, text, names, expected):
        for handed in (names_of(*names), tuple(names_of(*names))):
            self.assertEqual(self.led(text, handed), (value_of(expected),))

    def assert_nothing(self, text, names):
        for handed in (names_of(*names), tuple(names_of(*names))):
            self.assertEqual(self.led(text, handed), ())

    def test_every_value(self):
        for text in TEXTS + tuple(made_texts(200)):
            for names, found in places(value_of(text)):
                self.assertEqual(self.led(text, names), (found,))
                self.assertEqual(self.led(text, list(names)), (found,))

    def test_no_parts(self):
        for text in (b"null", b" 1 ", b"[]", b'{"":1}'):
            self.assert_leads(text, (), text)

    def test_rows(self):
        text = b" [ 5 , [ 6 ] , 7 , 8,9,10,11,12,13,14,15 ] "
        for names, expected in ((("0",), b"5"), (("1",), b"[6]"), (("1", "0"), b"6"), (("2",), b"7"), (("10",), b"15")):
            self.assert_leads(text, names, expected)
        for part in ("11", "12", "00", "01", "001", "-", "-0", "-1", "+1", "", " 1", "1 ", "1.0", "1e0", "a", "0x1", "\u0661",
                     "1" * 4000, "9" * 30):
            self.assert_nothing(text, (part,))
            self.assert_nothing(text, (part, "0"))
        self.assert_nothing(b"[]", ("0",))
        self.assert_nothing(b"[1]", ("1",))

    def test_fields(self):
        text = b'{"a":1,"0":2,"":3,"-":4,"00":5,"a":6,"b":{"a":7},"~1":8,"/":9,"\\u00e9":10}'
        for part, expected in (("a", b"1"), ("0", b"2"), ("", b"3"), ("-", b"4"), ("00", b"5"), ("~1", b"8"), ("/", b"9"),
                               ("\u00e9", b"10")):
            self.assert_leads(text, (part,), expected)
        self.assert_leads(text, ("b", "a"), b"7")
        for part in ("1", "A", "aa", "~", "c"):
            self.assert_nothing(text, (part,))
        self.assert_nothing(text, ("b", "b"))
        self.assert_nothing(b"{}", ("",))

    def test_the_first_of_a_name_alone(self):
        self.assert_leads(b'{"a":[1],"a":[1,2]}', ("a", "0"), b"1")
        self.assert_nothing(b'{"a":[1],"a":[1,2]}', ("a", "1"))
        self.assert_nothing(b'{"a":1,"a":{"b":2}}', ("a", "b"))

    def test_behind_a_word_a_number_or_a_text(self):
        for text in (b"null", b"true", b"false", b"10", b'"ab"', b'""'):
            for part in ("0", "", "a", "-"):
                self.assert_nothing(text, (part,))
                self.assert_nothing(b"[" + text + b"]", ("0", part))
                self.assert_nothing(b'{"a":' + text + b"}", ("a", part))

    def test_by_chance(self):
        tried = names_of("0", "1", "2", "-", "", "a", "b", "00", "~", "/")
        for text in made_texts(100, seed=7):
            known = dict(places(value_of(text)))
            for names in itertools.chain(itertools.product(tried, repeat=1), itertools.product(tried, repeat=2)):
                expected = (known[names],) if names in known else ()
                self.assertEqual(self.led(text, names), expected)

    def test_the_deepest(self):
        self.assert_leads(b"[" * 64 + b"1" + b"]" * 64, ["0"] * 64, b"1")
        self.assert_nothing(b"[" * 64 + b"1" + b"]" * 64, ["0"] * 65)
        self.assert_leads(b'{"a":' * 64 + b"1" + b"}" * 64, ["a"] * 64, b"1")


class Handed(unittest.TestCase):
    def test_stays_and_each_list_is_new(self):
        numbers = signs("/a/~1")
        first, second = parts(numbers), parts(numbers)
        self.assertEqual(numbers, signs("/a/~1"))
        self.assertIsNot(first, second)
        first.append(0)
        self.assertEqual(parts(numbers), second)
        names = [(97,), (47,)]
        first, second = pointer(names), pointer(names)
        self.assertEqual(names, [(97,), (47,)])
        self.assertIsNot(first, second)
        first.append(0)
        self.assertEqual(pointer(names), second)
        self.assertIsNot(parts([]), parts([]))
        self.assertIsNot(pointer([]), pointer([]))


if __name__ == "__main__":
    unittest.main()
