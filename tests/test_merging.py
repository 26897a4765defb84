"""[7.4] and [7.5]. A merge over Python's own dicts says what is right."""

import inspect
import itertools
import unittest

from plainglass.errors import GlassError, NoMerge
from plainglass.merging import merge_for, merged
from tests.model import made_clean_values, nested, ordered, places, value_of
from tests.test_patches import loose, tight

TEXTS = (b"null", b"true", b"0", b'""', b"[]", b"[null]", b'[{"a":null}]', b"{}", b'{"a":1}', b'{"a":null}', b'{"a":2}', b'{"b":1}', b'{"b":null}',
         b'{"a":1,"b":2}', b'{"b":2,"a":1}', b'{"a":null,"b":1}', b'{"b":1,"a":null}', b'{"a":{}}', b'{"a":{"b":null}}', b'{"a":{"b":1}}',
         b'{"a":{"b":1,"c":null}}', b'{"a":{"c":null}}', b'{"a":{"b":{"c":null,"d":1}}}', b'{"a":{"b":{"d":1}}}', b'{"a":[null]}',
         b'{"a":[{"b":null}]}', b'{"a":{"b":[null]}}', b'{"c":3,"a":{"x":{"y":null}},"b":{}}', b'{"":{"":null}}', b'{"":{}}')


def merge(one, other):
    if not isinstance(other, dict):
        return other
    result = dict(one) if isinstance(one, dict) else {}
    for name, value in other.items():
        if value is None:
            if name in result:
                result.pop(name)
        else:
            result[name] = merge(result[name] if name in result else None, value)
    return result


# The names, from the whole on, of each member None that is reached by names alone.
def nones(thing, names=()):
    if isinstance(thing, tuple) and thing[0] == "fields":
        for name, value in thing[1]:
            if value is None:
                yield names + (name,)
            yield from nones(value, names + (name,))


class Interface(unittest.TestCase):
    def test_arguments(self):
        for function in (merged, merge_for):
            self.assertEqual(list(inspect.signature(function).parameters), ["one", "other"])


class Merged(unittest.TestCase):
    def test_by_hand(self):
        for one, other, result in (
            (b"1", b"2", b"2"), (b'{"a":1}', b"2", b"2"), (b'{"a":1}', b"null", b"null"), (b'{"a":1}', b"[1]", b"[1]"), (b"1", b'{"a":1}', b'{"a":1}'),
            (b"[1,2]", b'{"a":1}', b'{"a":1}'), (b"null", b"{}", b"{}"), (b'{"a":1}', b"{}", b'{"a":1}'), (b'{"a":1}', b'{"a":2}', b'{"a":2}'),
            (b'{"a":1,"b":2,"c":3}', b'{"b":null}', b'{"a":1,"c":3}'), (b'{"a":1}', b'{"b":null}', b'{"a":1}'),
            (b'{"a":1,"b":2}', b'{"c":3,"a":4}', b'{"a":4,"b":2,"c":3}'), (b'{"a":1}', b'{"d":4,"c":3}', b'{"a":1,"d":4,"c":3}'),
            (b'{"a":{"b":1,"c":2}}', b'{"a":{"b":null,"d":3}}', b'{"a":{"c":2,"d":3}}'), (b'{"a":1}', b'{"a":{"b":null}}', b'{"a":{}}'),
            (b"{}", b'{"a":{"b":null,"c":{"d":null}}}', b'{"a":{"c":{}}}'), (b'{"a":[1]}', b'{"a":[null]}', b'{"a":[null]}'),
            (b'{"a":null}', b'{"b":1}', b'{"a":null,"b":1}'), (b'{"a":null}', b'{"a":null}', b"{}"), (b'{"a":{"b":1}}', b'{"a":[]}', b'{"a":[]}'),
            (b"[]", b'{"a":null}', b"{}"), (b'{"a":[{"b":null}]}', b'{"c":[{"d":null}]}', b'{"a":[{"b":null}],"c":[{"d":null}]}'),
        ):
            self.assertEqual(merged(value_of(one), value_of(other)), value_of(result))

    def test_each_with_each(self):
        values = [value_of(text) for text in TEXTS] + made_clean_values(60, seed=15)
        for one, other in itertools.product(values, repeat=2):
            self.assertEqual(merged(one, other), tight(merge(loose(one), loose(other))))

    def test_the_deepest(self):
        deep = nested(64, ("fields",), True)
        self.assertEqual(merged(deep, deep), deep)
        self.assertEqual(merged(None, deep), deep)
        self.assertEqual(merged(deep, nested(64, ("fields",), None)), nested(63, ("fields",), ("fields", ())))

    def test_handed(self):
        one, other = value_of(b'{"a":1,"b":{"c":1}}'), value_of(b'{"a":null,"b":{"d":2}}')
        kept = repr((one, other))
        merged(one, other)
        merge_for(one, value_of(b'{"b":{"d":2}}'))
        self.assertEqual(repr((one, other)), kept)


class MergeFor(unittest.TestCase):
    def assert_merge(self, one, other):
        missing = [names for names in nones(other) if names not in list(nones(one))]
        if missing:
            with self.assertRaises(NoMerge) as caught:
                merge_for(one, other)
            self.assertIsInstance(caught.exception, GlassError)
        else:
            found = merge_for(one, other)
            self.assertEqual(ordered(merged(one, found)), ordered(other))
            self.assertEqual(ordered(tight(merge(loose(one), loose(found)))), ordered(other))

    def test_no_merge(self):
        for one, other in ((b"{}", b'{"a":null}'), (b'{"a":1}', b'{"a":null}'), (b"null", b'{"a":null}'), (b'{"a":null}', b'{"b":null}'),
                           (b'{"a":null}', b'{"a":{"a":null}}'), (b'{"a":{"b":1}}', b'{"a":{"b":null}}'), (b'{"a":[null]}', b'{"a":{"0":null}}'),
                           (b'{"b":null}', b'{"a":{"b":null}}'), (b'{"a":{"b":null}}', b'{"b":null,"a":{"b":null}}'), (b"[null]", b'{"0":null}')):
            self.assertRaises(NoMerge, merge_for, value_of(one), value_of(other))
            self.assert_merge(value_of(one), value_of(other))

    def test_merges(self):
        for one, other in ((b'{"a":null}', b'{"a":null}'), (b'{"a":null,"b":1}', b'{"a":null,"c":2}'), (b'{"a":1}', b"null"), (b"1", b"[null]"),
                           (b'{"a":{"b":null}}', b'{"a":{"b":null,"c":1}}'), (b"{}", b'{"a":[null,{"b":null}]}'), (b'{"a":null}', b"{}"),
                           (b'{"a":null}', b'{"a":1}'), (b'{"a":null}', b'{"a":{}}'), (b'{"a":1}', b'{"a":{}}'), (b'{"a":{"b":1}}', b'{"a":{}}'),
                           (b"1", b"{}"), (b'{"a":1,"b":2}', b'{"b":2,"a":1}'), (b"null", b"null"), (b'{"a":[1]}', b'[{"a":null}]')):
            self.assertEqual(ordered(merged(value_of(one), merge_for(value_of(one), value_of(other)))), ordered(value_of(other)))

    def test_each_with_each(self):
        values = [value_of(text) for text in TEXTS] + made_clean_values(80, seed=16)
        for one, other in itertools.product(values, repeat=2):
            self.assert_merge(one, other)

    def test_near_ones(self):
        for one in made_clean_values(150, seed=17):
            for parts, inner in places(one):
                for new in (None, True, ("fields", ()), ("fields", (((97,), None),)), ("row", (None,))):
                    other = with_value(one, parts, new)
                    self.assert_merge(one, other)
                    self.assert_merge(other, one)

    def test_the_deepest(self):
        for kinds in (("fields",), ("row",), ("fields", "row")):
            for within in (True, None):
                one, other = nested(64, kinds, within), nested(64, kinds, False)
                for pair in ((one, other), (other, one), (one, one), (None, one), (one, None)):
                    self.assert_merge(*pair)


# A value with another one where the parts lead.
def with_value(thing, parts, new):
    if not parts:
        return new
    if thing[0] == "row":
        k = int(bytes(parts[0]))
        return "row", thing[1][:k] + (with_value(thing[1][k], parts[1:], new),) + thing[1][k + 1:]
    return "fields", tuple([(name, with_value(value, parts[1:], new) if name == parts[0] else value) for name, value in thing[1]])


if __name__ == "__main__":
    unittest.main()
