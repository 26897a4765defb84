"""[4.1], [4.2], and the faults of [2.3] wherever a row is refused."""

import inspect
import itertools
import unittest

from plainglass.endings import ending
from plainglass.errors import Fault, GlassError
from plainglass.grammar import fault
from plainglass.nodes import nodes
from plainglass.values import alike, is_clean, is_value, value
from tests.model import TEXTS, changed_rows, cleaned, fault_of, made_clean_values, made_texts, made_values, nested
from tests.model import ordered, value_of

ONE = ("number", 1, 0)


def fields(*members):
    return "fields", tuple([(tuple(map(ord, name)), worth) for name, worth in members])


def row_of(*values):
    return "row", values


def text(words):
    return "text", tuple(map(ord, words))


# Whether a thing is made of tuples, whole numbers, texts, truths and None alone.
def is_plain(thing):
    if type(thing) is tuple:
        return all([is_plain(part) for part in thing])
    return thing is None or type(thing) in (int, str, bool)


class Interface(unittest.TestCase):
    def test_arguments(self):
        for function, names in ((value, "row"), (is_value, "thing"), (is_clean, "thing"), (alike, "one other")):
            self.assertEqual(list(inspect.signature(function).parameters), names.split())


class Value(unittest.TestCase):
    def test_by_hand(self):
        for written, expected in (
            (b"null", None), (b" true", True), (b"false ", False), (b"-0", ("number", 0, 0)), (b"12.50e3", ("number", 125, 2)),
            (b'""', ("text", ())), (b'"\\u00e9\\n"', ("text", (233, 10))), (b"[]", ("row", ())), (b"{}", ("fields", ())),
            (b"[ null , [ ] , 1 ]", row_of(None, row_of(), ONE)),
            (b'{"a":1,"b":{"":true},"a":[false]}', fields(("a", ONE), ("b", fields(("", True))), ("a", row_of(False)))),
            (b'{"b":1,"a":1,"\\u0062":null}', fields(("b", ONE), ("a", ONE), ("b", None))),
        ):
            found = value(list(written))
            self.assertEqual(found, expected)
            self.assertIs(found is True, expected is True)

    def test_every_kind(self):
        for written in TEXTS + tuple(made_texts(500)):
            found = value(list(written))
            self.assertEqual(found, value_of(written))
            self.assertTrue(is_plain(found))
            self.assertIs(is_value(found), True)

    def test_the_deepest(self):
        for written in (b"[" * 64 + b"]" * 64, b'{"a":' * 64 + b"null" + b"}" * 64, b'[{"a":' * 32 + b"1" + b"}]" * 32):
            self.assertEqual(value(list(written)), value_of(written))

    def test_the_longest(self):
        written = b"[" + b"1," * 1998 + b"12]"
        self.assertEqual(value(list(written)), row_of(*[ONE] * 1998, ("number", 12, 0)))

    def test_handed(self):
        row = list(b'{"a":[1]}')
        kept = list(row)
        found = value(row)
        self.assertEqual(row, kept)
        row.clear()
        self.assertEqual(found, value_of(kept))


class Faults(unittest.TestCase):
    # What a function of a row refuses at; None where it does not refuse.
    def refused_at(self, function, row):
        try:
            function(list(row))
        except Fault as refusal:
            self.assertIsInstance(refusal, GlassError)
            return refusal.at
        return None

    def assert_one_place(self, row):
        at = fault_of(row)
        self.assertEqual(fault(list(row)), at, row)
        self.assertEqual(self.refused_at(nodes, row), at, row)
        self.assertEqual(self.refused_at(value, row), at, row)
        self.assertEqual(self.refused_at(ending, row), None if at == len(row) else at, row)

    def test_cut(self):
        for written in TEXTS + tuple(made_texts(50)):
            for size in range(len(written) + 1):
                self.assert_one_place(written[:size])

    def test_one_byte_changed(self):
        for written in TEXTS[1:38:4] + tuple(made_texts(3, seed=6)):
            for row in changed_rows(written):
                self.assert_one_place(row)


class IsValue(unittest.TestCase):
    def assert_value(self, thing):
        self.assertIs(is_value(thing), True, thing)

    def assert_none(self, thing):
        self.assertIs(is_value(thing), False, thing)
        # Nor is anything that has it where a value should stand.
        self.assertIs(is_value(("row", (None, thing))), False)
        self.assertIs(is_value(("fields", (((97,), None), ((97,), thing)))), False)

    def test_values(self):
        for thing in (None, True, False, ("number", 0, 0), ("number", 1, 0), ("number", -1, 5), ("number", 12, -7),
                      ("number", 10 ** 4000 - 1, 10 ** 4000), ("number", 1, 10 ** 5000), ("text", ()), ("text", (0, 34, 55295)),
                      ("text", (57344, 1114111)), ("row", ()), ("row", (None, True, ("row", ()))), ("fields", ()),
                      ("fields", (((), None),)), ("fields", (((97,), ("fields", ())), ((97,), False)))):
            self.assert_value(thing)
        for thing in made_values(300):
            self.assert_value(thing)

    def test_lists_for_tuples(self):
        for thing in ([], ["number", 1, 0], ["text", ()], ("text", []), ("text", [97]), ["row", ()], ("row", []),
                      ("row", [None]), ["fields", ()], ("fields", []), ("fields", ([(97,), None],)), ("fields", (([97], None),)),
                      ("row", (["row", ()],))):
            self.assert_none(thing)

    def test_truths_for_numbers(self):
        for thing in (("number", True, 0), ("number", False, 0), ("number", 1, True), ("number", 1, False), ("number", 0, False),
                      ("text", (True,)), ("text", (97, False)), ("fields", (((True,), None),))):
            self.assert_none(thing)

    def test_numbers(self):
        for thing in (("number", 10, 0), ("number", -10, 0), ("number", 100, -2), ("number", 0, 1), ("number", 0, -1),
                      ("number", 10 ** 4000, 0), ("number", "1", 0), ("number", 1, "0"), ("number", None, 0), ("number", 1, None),
                      ("number", (1,), 0), ("number", 1, (0,)), ("number", [1], 0), ("number", 1), ("number",),
                      ("number", 1, 0, 0), ("number", (1, 0)), 0, 1, -1, 7, 10 ** 4000):
            self.assert_none(thing)

    def test_characters(self):
        for point in (-1, 55296, 56319, 56320, 57343, 1114112, 10 ** 4000, None, True, "a", (97,), [97], ()):
            self.assert_none(("text", (point,)))
            self.assert_none(("text", (97, point)))
            self.assert_none(("fields", (((point,), None),)))
            self.assert_none(("fields", (((97, point), None),)))

    def test_other_words(self):
        for word in ("null", "true", "false", "name", "Row", "row ", "", "texts", "numbers", "field", None, True, False, 0, 1,
                     (), [], ("row",), ["row"]):
            for rest in ((), (None,), (97,), ((),)):
                self.assert_none((word, rest))
            self.assert_none((word, 1, 0))
            self.assert_none((word, None))

    def test_parts_too_many_or_too_few(self):
        for thing in ((), ("text",), ("row",), ("fields",), ("text", (), ()), ("row", (), ()), ("row", (), 0),
                      ("fields", (), ()), ("fields", (((97,),),)), ("fields", (((97,), None, None),)), ("fields", ((),)),
                      ("text", (97,), (98,))):
            self.assert_none(thing)

    def test_texts_none_and_truths_in_every_place(self):
        for odd in ("", "row", "text", "a", None, True, False, 7):
            for thing in (("text", odd), ("row", odd), ("fields", odd), ("fields", (odd,)), ("fields", ((odd, None),)),
                          ("number", odd, 0) if odd != 7 else ("number", 7), (odd, None), (odd, ONE)):
                self.assert_none(thing)
            if odd not in (None, True, False) or odd == 7:
                self.assert_none(odd)
                self.assert_none(("row", (odd,)))
                self.assert_none(("fields", (((97,), odd),)))

    def test_members_for_values_and_values_for_members(self):
        self.assert_none(((97,), None))
        self.assert_none(("row", (((97,), None),)))
        self.assert_none(("fields", (None,)))
        self.assert_none(("fields", (("text", ()),)))
        self.assert_value(("fields", (((), ("text", ())),)))

    def test_sixty_four_and_sixty_five(self):
        for kinds in (("row",), ("fields",), ("row", "fields"), ("fields", "row")):
            for within in (None, ONE, text("a")):
                self.assert_value(nested(64, kinds, within))
                self.assertIs(is_value(nested(65, kinds, within)), False)
                self.assertIs(is_value(("row", (None, nested(64, kinds, within)))), False)
                self.assert_value(("row", (None, nested(63, kinds, within))))
            for empty in (("row", ()), ("fields", ())):
                self.assert_value(nested(63, kinds, empty))
                self.assertIs(is_value(nested(64, kinds, empty)), False)

    def test_three_hundred_within_one_another(self):
        things = [None, ("row", ()), 1, "a", [], ()]
        for thing in things:
            for wrap in (lambda inner: (inner,), lambda inner: [inner], lambda inner: ("row", (inner,)),
                         lambda inner: ("text", inner), lambda inner: (inner, ()), lambda inner: ("number", inner, 0),
                         lambda inner: ("fields", ((inner, None),)), lambda inner: ("fields", (((), inner),))):
                deep = thing
                for turn in range(299):
                    deep = wrap(deep)
                self.assertIs(is_value(deep), False)
                self.assertIs(is_value(("row", (deep,))), False)

    def test_handed(self):
        inner = [97]
        thing = ["row", (inner,)]
        is_value(thing)
        is_value(("text", inner))
        self.assertEqual((thing, inner), (["row", ([97],)], [97]))


class IsClean(unittest.TestCase):
    def test_clean(self):
        for thing in (None, True, ONE, text("aa"), row_of(), fields(), row_of(ONE, ONE), fields(("a", ONE), ("b", ONE)),
                      fields(("a", fields(("a", fields(("a", None)))))), row_of(fields(("a", None)), fields(("a", None))),
                      fields(("", None), ("a", None), ("aa", None))):
            self.assertIs(is_clean(thing), True)
        for thing in made_clean_values(300):
            self.assertIs(is_clean(thing), True)

    def test_a_name_twice_at_any_depth(self):
        for twice in (fields(("a", None), ("a", None)), fields(("", None), ("b", None), ("", True)),
                      fields(("a", None), ("b", None), ("c", None), ("b", None))):
            self.assertIs(is_clean(twice), False)
            for count in range(1, 64):
                for kinds in (("row",), ("fields",), ("row", "fields")):
                    self.assertIs(is_clean(nested(count, kinds, twice)), False)
            self.assertIs(is_clean(row_of(fields(("a", None)), twice, None)), False)
            self.assertIs(is_clean(fields(("a", None), ("b", row_of(twice)))), False)

    def test_made_ones(self):
        for thing in made_values(500, seed=8):
            self.assertIs(is_clean(thing), cleaned(thing) == thing)


class Alike(unittest.TestCase):
    def assert_alike(self, one, other):
        self.assertIs(alike(one, other), True)
        self.assertIs(alike(other, one), True)

    def assert_unlike(self, one, other):
        self.assertIs(alike(one, other), False)
        self.assertIs(alike(other, one), False)

    def test_members_turned(self):
        one = fields(("a", ONE), ("b", fields(("c", None), ("d", row_of(fields(("e", True), ("f", False)))))))
        other = fields(("b", fields(("d", row_of(fields(("f", False), ("e", True)))), ("c", None))), ("a", ONE))
        self.assert_alike(one, other)
        self.assertNotEqual(one, other)
        for thing in made_clean_values(300):
            self.assert_alike(thing, thing)
            self.assert_alike(thing, ordered(thing))
            self.assert_alike(ordered(thing), ordered(thing, backwards=True))

    def test_turned_at_every_depth(self):
        one, other = fields(("x", None), ("y", True)), fields(("y", True), ("x", None))
        for count in range(64):
            for kinds in (("row",), ("fields",), ("fields", "row")):
                self.assert_alike(nested(count, kinds, one), nested(count, kinds, other))
                self.assert_unlike(nested(count, kinds, one), nested(count, kinds, fields(("y", True), ("x", False))))
                self.assert_unlike(nested(count, kinds, one), nested(count + 1, kinds, one))

    def test_each_with_each(self):
        things = (None, True, False, ("number", 0, 0), ONE, ("number", 1, 1), ("number", -1, 0), text(""), text("a"), text("ab"),
                  text("ba"), row_of(), row_of(None), row_of(None, None), row_of(True, None), row_of(None, True), row_of(row_of()),
                  fields(), fields(("a", None)), fields(("b", None)), fields(("a", True)), fields(("a", ONE)),
                  fields(("a", None), ("b", None)), fields(("a", None), ("b", True)), fields(("a", True), ("b", None)),
                  fields(("", fields())), fields(("", row_of())), row_of(fields()), row_of(text("")), row_of(False))
        for one, other in itertools.product(things, repeat=2):
            self.assertIs(alike(one, other), one == other)

    def test_made_ones(self):
        things = made_clean_values(60, seed=3)
        for one, other in itertools.product(things, repeat=2):
            self.assertIs(alike(one, other), ordered(one) == ordered(other))


if __name__ == "__main__":
    unittest.main()
