"""[7.1] and [7.2]. A second way of doing deeds, over Python's own lists and dicts, says what is right."""

import inspect
import itertools
import random
import unittest

from plainglass.errors import GlassError, NoDeed
from plainglass.patches import patched, size
from tests.model import made_clean_values, nested, ordered, places, value_of

ONE = ("number", 1, 0)
TWO = ("number", 2, 0)


def parts(*words):
    return tuple([tuple(map(ord, word)) for word in words])


def thing(text):
    return value_of(text)


# A value as lists and dicts that can be changed, words and texts and numbers as they are.
def loose(value):
    if isinstance(value, tuple) and value[0] == "row":
        return [loose(inner) for inner in value[1]]
    if isinstance(value, tuple) and value[0] == "fields":
        return {name: loose(inner) for name, inner in value[1]}
    return value


def tight(value):
    if isinstance(value, list):
        return "row", tuple([tight(inner) for inner in value])
    if isinstance(value, dict):
        return "fields", tuple([(name, tight(inner)) for name, inner in value.items()])
    return value


class Unfit(Exception):
    pass


def key(around, part, most):
    if isinstance(around, dict):
        return part
    words = "".join(map(chr, part))
    if isinstance(around, list) and words in [str(k) for k in range(most)]:
        return int(words)
    raise Unfit


def found(value, names):
    for part in names:
        k = key(value, part, len(value) if isinstance(value, list) else 0)
        if isinstance(value, dict) and k not in value:
            raise Unfit
        value = value[k]
    return value


def put_in(holder, names, value):
    if not names:
        holder[0] = value
        return
    around = found(holder[0], names[:-1])
    if isinstance(around, list):
        if names[-1] == (45,):
            around.append(value)
        else:
            around.insert(key(around, names[-1], len(around) + 1), value)
    elif isinstance(around, dict):
        around[names[-1]] = value
    else:
        raise Unfit


def take_out(holder, names):
    value = found(holder[0], names)
    if not names:
        raise Unfit
    around = found(holder[0], names[:-1])
    around.pop(names[-1] if isinstance(around, dict) else int("".join(map(chr, names[-1]))))
    return value


def do(holder, deed):
    word, names = deed[0], deed[1]
    if word == "add":
        put_in(holder, names, loose(deed[2]))
    elif word == "remove":
        take_out(holder, names)
    elif word == "replace":
        found(holder[0], names)
        if names:
            around = found(holder[0], names[:-1])
            around[key(around, names[-1], len(around))] = loose(deed[2])
        else:
            holder[0] = loose(deed[2])
    elif word == "move":
        if deed[2][:len(names)] == names and len(deed[2]) > len(names):
            raise Unfit
        put_in(holder, deed[2], take_out(holder, names))
    elif word == "copy":
        put_in(holder, deed[2], loose(tight(found(holder[0], names))))
    elif ordered(tight(found(holder[0], names))) != ordered(deed[2]):
        raise Unfit


def count(value):
    if isinstance(value, tuple) and value[0] == "row":
        return 1 + sum([count(inner) for inner in value[1]])
    if isinstance(value, tuple) and value[0] == "fields":
        return 1 + sum([count(inner) for name, inner in value[1]])
    return 1


# The value behind deeds, or the place of the first that does not fit.
def expected(value, deeds):
    holder = [loose(value)]
    for place, deed in enumerate(deeds):
        try:
            do(holder, deed)
        except Unfit:
            return place
    return tight(holder[0])


class Case(unittest.TestCase):
    def assert_patched(self, text, deeds, result):
        self.assertEqual(patched(thing(text), deeds), thing(result))
        self.assertEqual(expected(thing(text), deeds), thing(result))

    def assert_refused(self, value, deeds, place):
        kept = repr((value, deeds))
        with self.assertRaises(NoDeed) as caught:
            patched(value, deeds)
        self.assertEqual(caught.exception.place, place)
        self.assertIsInstance(caught.exception, GlassError)
        self.assertEqual(repr((value, deeds)), kept)

    def assert_unfit(self, text, deed):
        self.assert_refused(thing(text), [deed], 0)
        self.assert_refused(thing(text), [("test", (), thing(text)), deed, ("remove", ())], 1)
        self.assertEqual(expected(thing(text), [deed]), 0)


class Interface(Case):
    def test_arguments(self):
        self.assertEqual(list(inspect.signature(patched).parameters), ["thing", "deeds"])
        self.assertEqual(list(inspect.signature(size).parameters), ["thing"])

    def test_no_deeds(self):
        for value in made_clean_values(30):
            self.assertEqual(patched(value, []), value)


class Add(Case):
    def test_without_parts(self):
        for text in (b"null", b"[1]", b'{"a":1}'):
            self.assert_patched(text, [("add", (), TWO)], b"2")

    def test_in_fields(self):
        for text, part, result in ((b"{}", "a", b'{"a":2}'), (b'{"a":1,"b":1}', "a", b'{"a":2,"b":1}'), (b'{"a":1}', "c", b'{"a":1,"c":2}'),
                                   (b'{"a":1}', "", b'{"a":1,"":2}'), (b'{"a":1}', "-", b'{"a":1,"-":2}'), (b"{}", "0", b'{"0":2}'),
                                   (b'{"b":1,"a":1,"c":1}', "a", b'{"b":1,"a":2,"c":1}'), (b'{"-":1}', "-", b'{"-":2}')):
            self.assert_patched(text, [("add", parts(part), TWO)], result)

    def test_in_a_row(self):
        for text, part, result in ((b"[]", "0", b"[2]"), (b"[]", "-", b"[2]"), (b"[0,1]", "0", b"[2,0,1]"), (b"[0,1]", "1", b"[0,2,1]"),
                                   (b"[0,1]", "2", b"[0,1,2]"), (b"[0,1]", "-", b"[0,1,2]"),
                                   (b"[0,1,2,3,4,5,6,7,8,9]", "10", b"[0,1,2,3,4,5,6,7,8,9,2]")):
            self.assert_patched(text, [("add", parts(part), TWO)], result)

    def test_further_in(self):
        self.assert_patched(b'[{"a":[1]}]', [("add", parts("0", "a", "0"), TWO)], b'[{"a":[2,1]}]')
        self.assert_patched(b'{"a":[{}],"b":1}', [("add", parts("a", "0", "x"), TWO)], b'{"a":[{"x":2}],"b":1}')

    def test_unfit(self):
        for text, names in ((b"[]", ("1",)), (b"[0,1]", ("3",)), (b"[0,1]", ("00",)), (b"[0,1]", ("01",)), (b"[0]", ("",)), (b"[0]", ("a",)),
                            (b"[0]", ("-1",)), (b"[0]", ("--",)), (b"[0]", ("0", "0")), (b"1", ("a",)), (b"null", ("0",)), (b'"a"', ("0",)),
                            (b"true", ("-",)), (b"{}", ("a", "b")), (b'{"a":1}', ("a", "b")), (b"[[]]", ("-", "0")), (b"[]", ("0", "0"))):
            self.assert_unfit(text, ("add", parts(*names), TWO))


class RemoveAndReplace(Case):
    def test_remove(self):
        for text, names, result in ((b'{"a":1}', ("a",), b"{}"), (b'{"a":1,"b":2,"c":3}', ("b",), b'{"a":1,"c":3}'), (b"[1]", ("0",), b"[]"),
                                    (b"[1,2,3]", ("0",), b"[2,3]"), (b"[1,2,3]", ("2",), b"[1,2]"), (b'{"":1}', ("",), b"{}"),
                                    (b'[{"a":[1,2]}]', ("0", "a", "1"), b'[{"a":[1]}]'), (b'{"-":1}', ("-",), b"{}")):
            self.assert_patched(text, [("remove", parts(*names))], result)

    def test_replace(self):
        for text, names, result in ((b"1", (), b"2"), (b'{"a":1}', (), b"2"), (b'{"a":1,"b":1}', ("a",), b'{"a":2,"b":1}'),
                                    (b"[0,1]", ("1",), b"[0,2]"), (b"[0,[1]]", ("1", "0"), b"[0,[2]]"), (b'{"-":1}', ("-",), b'{"-":2}')):
            self.assert_patched(text, [("replace", parts(*names), TWO)], result)

    def test_unfit(self):
        for text, names in ((b"[]", ("0",)), (b"[1]", ("1",)), (b"[1]", ("-",)), (b"[1]", ("00",)), (b"[1]", ("",)), (b"{}", ("a",)),
                            (b'{"a":1}', ("b",)), (b'{"a":1}', ("a", "0")), (b"1", ("0",)), (b'{"a":1}', ("-",))):
            self.assert_unfit(text, ("remove", parts(*names)))
            self.assert_unfit(text, ("replace", parts(*names), TWO))
        for text in (b"1", b"[]", b"{}", b"[1]"):
            self.assert_unfit(text, ("remove", ()))


class MoveAndCopy(Case):
    def test_move(self):
        for text, names, goal, result in (
            (b'{"a":1,"b":2}', ("a",), ("c",), b'{"b":2,"c":1}'), (b'{"a":1,"b":2}', ("a",), ("b",), b'{"b":1}'),
            (b"[0,1,2]", ("0",), ("2",), b"[1,2,0]"), (b"[0,1,2]", ("2",), ("0",), b"[2,0,1]"), (b"[0,1,2]", ("0",), ("-",), b"[1,2,0]"),
            (b"[0,1,2]", ("1",), ("1",), b"[0,1,2]"), (b'{"a":1,"b":2}', ("a",), ("a",), b'{"b":2,"a":1}'), (b'{"a":1}', ("a",), (), b"1"),
            (b'{"a":[1],"b":{}}', ("a", "0"), ("b", "x"), b'{"a":[],"b":{"x":1}}'), (b"[0,[]]", ("0",), ("0", "0"), None),
            (b"[0,[],3]", ("0",), ("0", "-"), None), (b'{"a":{"b":1}}', ("a", "b"), ("a",), b'{"a":1}'),
            (b"[[1],[2]]", ("0",), ("0", "0"), None), (b"[0,[1]]", ("0",), ("1",), b"[[1],0]"), (b"[0,1,2]", ("0",), ("3",), None),
        ):
            deed = ("move", parts(*names), parts(*goal))
            if result is None:
                self.assert_unfit(text, deed)
            else:
                self.assert_patched(text, [deed], result)

    # The goal is asked of what is left: behind the place that is gone all places are one less.
    def test_move_leads_by_what_is_left(self):
        self.assert_patched(b"[0,[1],[2]]", [("move", parts("0"), parts("1", "0"))], b"[[1],[0,2]]")

    def test_copy(self):
        for text, names, goal, result in (
            (b'{"a":1,"b":2}', ("a",), ("c",), b'{"a":1,"b":2,"c":1}'), (b'{"a":1,"b":2}', ("a",), ("b",), b'{"a":1,"b":1}'),
            (b"[0,1]", ("0",), ("2",), b"[0,1,0]"), (b"[0,1]", ("1",), ("0",), b"[1,0,1]"), (b"[0,1]", ("0",), ("-",), b"[0,1,0]"),
            (b"[0,1]", ("0",), ("0",), b"[0,0,1]"), (b'{"a":1}', ("a",), ("a",), b'{"a":1}'), (b"[1]", ("0",), (), b"1"),
            (b"[1]", (), ("0",), b"[[1],1]"), (b'{"a":{}}', (), ("a", "b"), b'{"a":{"b":{"a":{}}}}'), (b"[1]", (), (), b"[1]"),
            (b'{"a":{"b":1}}', ("a",), ("a", "c"), b'{"a":{"b":1,"c":{"b":1}}}'),
        ):
            self.assert_patched(text, [("copy", parts(*names), parts(*goal))], result)

    def test_unfit(self):
        for text, names, goal in ((b"[1]", ("1",), ("0",)), (b"[1]", ("-",), ("0",)), (b"[1]", ("00",), ("0",)), (b"{}", ("a",), ("b",)),
                                  (b"[1]", ("0",), ("5",)), (b'{"a":1}', ("a",), ("b", "c")), (b"[1,2]", ("0",), ("01",)),
                                  (b'{"a":1,"b":2}', ("a",), ("b", "c")), (b"1", ("0",), ())):
            self.assert_unfit(text, ("move", parts(*names), parts(*goal)))
            self.assert_unfit(text, ("copy", parts(*names), parts(*goal)))

    def test_into_itself_and_without_parts(self):
        for text, names, goal in ((b'{"a":{"b":1}}', ("a",), ("a", "b")), (b'{"a":{}}', ("a",), ("a", "c")), (b"[[]]", ("0",), ("0", "0")),
                                  (b"[[],[]]", ("0",), ("0", "-")), (b'{"a":1}', (), ("a",)), (b"[]", (), ("0",)), (b"[1]", (), ())):
            self.assert_unfit(text, ("move", parts(*names), parts(*goal)))
        # A name that only begins like another one is another one.
        self.assert_patched(b'{"a":1,"ab":{}}', [("move", parts("a"), parts("ab", "c"))], b'{"ab":{"c":1}}')


class Test(Case):
    def test_alike(self):
        value = thing(b'{"a":{"b":1,"c":[2,{"d":3,"e":4}]}}')
        turned = thing(b'{"a":{"c":[2,{"e":4,"d":3}],"b":1}}')
        self.assertEqual(patched(value, [("test", (), turned)]), value)
        self.assertEqual(patched(value, [("test", parts("a"), turned[1][0][1])]), value)
        self.assertEqual(patched(value, [("test", parts("a", "c", "1"), thing(b'{"e":4,"d":3}'))]), value)
        self.assertEqual(patched(value, [("test", parts("a", "b"), ONE)] * 3), value)

    def test_unlike(self):
        for names, other in (((), b"{}"), (("a",), b"1"), (("a", "0"), b"2"), (("a", "-"), b"1"), (("a", "2"), b"1"), (("b",), b"null"),
                             (("a",), b"[2,1]")):
            self.assert_unfit(b'{"a":[1,2]}', ("test", parts(*names), thing(other)))
        self.assert_unfit(b"[0]", ("test", parts("0"), False))
        self.assert_unfit(b"[1]", ("test", parts("0"), True))


class InTurn(Case):
    def test_one_behind_the_other(self):
        self.assert_patched(b'{"a":[]}', [("add", parts("a", "-"), ONE), ("copy", parts("a", "0"), parts("a", "-")),
                                          ("replace", parts("a", "1"), TWO), ("move", parts("a"), parts("b")),
                                          ("test", parts("b"), thing(b"[1,2]")), ("remove", parts("b", "0"))], b'{"b":[2]}')

    def test_the_place_of_the_first_unfit(self):
        fit, unfit = ("add", parts("-"), ONE), ("remove", parts("a"))
        for ahead in range(5):
            for behind in range(3):
                self.assert_refused(thing(b"[]"), [fit] * ahead + [unfit] + [unfit, fit] * behind, ahead)

    def test_by_chance(self):
        chance = random.Random(5)
        results = {}
        for value in made_clean_values(400, seed=11, depth=3):
            paths = [names for names, inner in places(value)]
            wrong = [names + tail for names in paths for tail in parts("-", "0", "1", "a", "", "00")[:chance.randrange(7)]
                     for tail in [(tail,)]]
            for turn in range(12):
                names, goal = [chance.choice(chance.choice((paths, wrong or paths))) for end in range(2)]
                new = chance.choice([ONE, None, ("row", (True,)), ("fields", (((97,), ONE),)), dict(places(value))[chance.choice(paths)]])
                deed = chance.choice([("add", names, new), ("remove", names), ("replace", names, new), ("move", names, goal),
                                      ("copy", names, goal), ("test", names, new)])
                deeds = [deed, ("add", (), ONE)] if turn % 2 else [deed]
                result = expected(value, deeds)
                if type(result) is int:
                    self.assert_refused(value, deeds, result)
                else:
                    self.assertEqual(patched(value, deeds), result)
                results[deed[0], type(result) is int] = True
        self.assertEqual(len(results), 12)


class Bounds(Case):
    def row_of(self, many):
        return "row", (None,) * (many - 1)

    def test_three_hundred_values(self):
        for deeds, most in (
            ([("add", parts("-"), None)], 299), ([("add", parts("0"), self.row_of(10))], 290), ([("replace", parts("0"), self.row_of(11))], 290),
            ([("copy", parts("0"), parts("-"))], 299), ([("replace", parts("1"), None), ("add", parts("-"), None)], 299),
        ):
            self.assertEqual(size(patched(self.row_of(most), deeds)), 300)
            self.assert_refused(self.row_of(most + 1), deeds, len(deeds) - 1)
        self.assertEqual(size(patched(None, [("add", (), self.row_of(300))])), 300)
        self.assertEqual(size(patched(None, [("replace", (), self.row_of(300))])), 300)
        self.assert_refused(None, [("add", (), self.row_of(301))], 0)
        self.assert_refused(None, [("replace", (), self.row_of(301))], 0)

    def test_copied_values(self):
        half = ("fields", (((97,), self.row_of(149)),))
        self.assertEqual(size(patched(half, [("copy", parts("a"), parts("b"))])), 299)
        self.assertEqual(size(patched(half, [("copy", (), parts("a", "0"))])), 300)
        more = ("fields", (((97,), self.row_of(150)),))
        self.assert_refused(more, [("copy", parts("a"), parts("b"))], 0)
        self.assert_refused(more, [("copy", (), parts("a", "0"))], 0)

    def test_moved_values(self):
        value = ("row", (self.row_of(100), self.row_of(199)))
        self.assertEqual(size(value), 300)
        self.assertEqual(patched(value, [("move", parts("0"), parts("-"))]), ("row", (self.row_of(199), self.row_of(100))))
        self.assert_refused(("row", (self.row_of(100), self.row_of(200))), [("move", parts("0"), parts("-"))], 0)

    # A value with so many brackets is led to a place with so many brackets round it.
    def assert_deep(self, inner, around, fits):
        for kinds in (("row",), ("fields", "row")):
            new = nested(inner, kinds, ONE)
            value = ("fields", (((98,), new), ((99,), nested(around - 1, ("row",), ONE))))
            goal = parts("c", *["0"] * (around - 1))
            for deed in (("add", goal, new), ("replace", goal, new), ("copy", parts("b"), goal), ("move", parts("b"), goal)):
                if fits:
                    self.assertEqual(depth(patched(value, [deed])), inner + around)
                else:
                    self.assert_refused(value, [deed], 0)

    def test_sixty_four_within_one_another(self):
        for inner in (1, 2, 31, 62, 63):
            self.assert_deep(inner, 64 - inner, True)
        for inner in (2, 3, 31, 62, 63):
            self.assert_deep(inner, 65 - inner, False)

    def test_whole_values(self):
        for kinds in (("row",), ("fields",)):
            self.assertEqual(patched(None, [("add", (), nested(64, kinds, None))]), nested(64, kinds, None))
            self.assert_refused(None, [("add", (), nested(65, kinds, None))], 0)
            self.assert_refused(None, [("replace", (), nested(65, kinds, None))], 0)
            self.assert_refused(("row", ()), [("add", parts("0"), nested(64, kinds, None))], 0)
            self.assertEqual(patched(("row", ()), [("add", parts("0"), nested(63, kinds, None))]), ("row", (nested(63, kinds, None),)))
        self.assert_refused(nested(64, ("row",), None), [("copy", (), parts("0"))], 0)
        self.assertEqual(depth(patched(nested(32, ("row",), None), [("copy", (), parts(*["0"] * 32))])), 64)
        self.assert_refused(nested(33, ("row",), None), [("copy", (), parts(*["0"] * 33))], 0)


def depth(value):
    if isinstance(value, tuple) and value[0] in ("row", "fields"):
        inner = value[1] if value[0] == "row" else [part for name, part in value[1]]
        return 1 + max([depth(part) for part in inner], default=0)
    return 0


class Size(Case):
    def test_every_kind(self):
        for text, many in ((b"null", 1), (b"true", 1), (b"false", 1), (b"12", 1), (b'"ab"', 1), (b"[]", 1), (b"{}", 1), (b"[1]", 2), (b"[1,1]", 3),
                           (b'{"a":1}', 2), (b'{"a":[],"b":{"c":[1,2]}}', 6), (b"[[],[[]],{}]", 5)):
            self.assertEqual(size(thing(text)), many)
        for value in made_clean_values(200):
            self.assertEqual(size(value), count(value))
            self.assertEqual(size(value), len(list(places(value))))
        self.assertEqual(size(nested(64, ("row", "fields"), None)), 65)
        self.assertEqual(size(("row", (None,) * 400)), 401)


class Handed(Case):
    def test_stays(self):
        value = thing(b'{"a":[1,2],"b":{}}')
        deeds = [("add", parts("a", "-"), ONE), ("remove", parts("b"))]
        kept = repr((value, deeds))
        first = patched(value, deeds)
        self.assertEqual(repr((value, deeds)), kept)
        deeds.clear()
        self.assertEqual(first, thing(b'{"a":[1,2,1]}'))

    def test_each_part_of_what_comes_is_a_tuple(self):
        for names, new in itertools.product((parts("a"), parts("a", "0"), parts("b", "x")), (ONE, thing(b"[1]"), thing(b"{}"))):
            self.assertTrue(only_tuples(patched(thing(b'{"a":[1,2],"b":{}}'), [("add", names, new)])))


def only_tuples(value):
    return not isinstance(value, list) and (not isinstance(value, tuple) or all([only_tuples(part) for part in value]))


if __name__ == "__main__":
    unittest.main()
