"""[7.3]. The deeds are done by patched, and by the tests' own way of doing them."""

import inspect
import itertools
import unittest

from plainglass.differing import between
from plainglass.patches import patched
from tests.model import made_clean_values, nested, ordered, places, value_of
from tests.test_patches import expected

TEXTS = (b"null", b"true", b"false", b"0", b"1", b"10", b'""', b'"a"', b"[]", b"[1]", b"[1,2]", b"[2,1]", b"[1,2,3]", b"[[1],{}]", b"{}",
         b'{"a":1}', b'{"a":2}', b'{"b":1}', b'{"a":1,"b":2}', b'{"b":2,"a":1}', b'{"a":null}', b'{"a":{"b":1,"c":[1,{"x":1,"y":2}]},"d":3}',
         b'{"d":3,"a":{"c":[1,{"y":2,"x":1}],"b":1}}', b'{"a":{"b":1,"c":[1,{"x":1,"y":3}]},"d":3}', b'{"a":{"b":{"c":{"d":1}}}}',
         b'{"a":{"b":{"c":{"d":2}}}}', b'{"a":{"b":{"c":{"e":1}}}}', b'{"a":{"b":{"c":[]}}}', b'{"0":1,"-":2,"":3}', b'{"0":1,"-":[],"":{}}')


# Where parts lead by names alone; an empty tuple where they lead to nothing.
def named(thing, parts):
    for part in parts:
        if not isinstance(thing, tuple) or thing[0] != "fields" or part not in dict(thing[1]):
            return ()
        thing = dict(thing[1])[part]
    return (thing,)


class Case(unittest.TestCase):
    def assert_between(self, one, other):
        deeds = between(one, other)
        self.assertIs(type(deeds), list)
        self.assertEqual(deeds == [], ordered(one) == ordered(other))
        for deed in deeds:
            self.assertIs(type(deed), tuple)
            self.assertEqual(len(deed), {"add": 3, "remove": 2, "replace": 3}[deed[0]])
            self.assertEqual([type(deed[1])] + [type(part) for part in deed[1]], [tuple] * (1 + len(deed[1])))
            both = named(one, deed[1]) + named(other, deed[1])
            self.assertFalse(len(both) == 2 and ordered(both[0]) == ordered(both[1]), deed)
        self.assertEqual(ordered(expected(one, deeds)), ordered(other))
        self.assertEqual(ordered(patched(one, deeds)), ordered(other))


class Between(Case):
    def test_arguments(self):
        self.assertEqual(list(inspect.signature(between).parameters), ["one", "other"])

    def test_each_with_each(self):
        for one, other in itertools.product([value_of(text) for text in TEXTS], repeat=2):
            self.assert_between(one, other)

    def test_made_ones(self):
        values = made_clean_values(60, seed=12)
        for one, other in itertools.product(values, repeat=2):
            self.assert_between(one, other)

    def test_members_turned(self):
        for value in made_clean_values(200, seed=13):
            self.assertEqual(between(value, ordered(value)), [])
            self.assertEqual(between(ordered(value), ordered(value, backwards=True)), [])

    def test_one_thing_changed(self):
        for value in made_clean_values(100, seed=14):
            for parts, inner in places(value):
                for new in (None, ("number", 77, 0), ("row", (inner,)), ("fields", (((97,), inner),))):
                    other = patched(value, [("replace", parts, new)])
                    self.assert_between(value, other)
                    self.assert_between(other, value)

    def test_by_hand(self):
        one, other = value_of(b'{"a":1,"b":{"c":2,"d":[3]},"e":4}'), value_of(b'{"b":{"d":[5],"c":2},"e":4,"f":6}')
        deeds = between(one, other)
        parts = sorted([(deed[0], deed[1]) for deed in deeds])
        self.assertEqual(parts, [("add", ((102,),)), ("remove", ((97,),)), ("replace", ((98,), (100,)))])

    def test_the_whole(self):
        self.assertEqual(len(between(None, True)), 1)
        self.assertEqual(between(None, True)[0][1], ())
        self.assertEqual(between(None, None), [])

    def test_the_deepest(self):
        for kinds in (("row",), ("fields",), ("fields", "row"), ("row", "fields")):
            one, other = nested(64, kinds, None), nested(64, kinds, True)
            self.assert_between(one, one)
            self.assert_between(one, other)
            self.assert_between(one, None)
            self.assert_between(None, one)

    # As large as values may be, and the deeds still fit one behind the other.
    def test_the_largest(self):
        rows = [("fields", tuple([((name,), ("row", (None,) * many)) for name, many in members])) for members in
                (((97, 1), (98, 290)), ((97, 290), (98, 1)), ((99, 290), (97, 1)), ((98, 290), (100, 1), (97, 2)), ((97, 297),))]
        for one, other in itertools.product(rows, repeat=2):
            self.assert_between(one, other)

    def test_handed(self):
        one, other = value_of(b'{"a":1}'), value_of(b'{"b":[1]}')
        kept = repr((one, other))
        first, second = between(one, other), between(one, other)
        self.assertEqual(repr((one, other)), kept)
        self.assertIsNot(first, second)
        first.clear()
        self.assertEqual(between(one, other), second)
        self.assertIsNot(between(one, one), between(one, one))


if __name__ == "__main__":
    unittest.main()
