"""[6.1] to [6.3], and the order of refusals at the head of stage 6."""

import inspect
import itertools
import unittest

from plainglass.edits import add, add_member, cut, put
from plainglass.errors import Fault, GlassError, NoPoint, NotThere, TooDeep
from tests.model import TEXTS, fault_of, made_texts, nodes_of, places, value_of

OTHERS = (b"0", b" null ", b"\t[1, 2]\n", b'{"a" : {}}', b'"\xc3\xa9"')


def names_of(*words):
    return [tuple(map(ord, word)) for word in words]


# What lies right in a node: for each value or member where it begins, its value's node, and its name or place.
def inner(text, tree, i):
    found = []
    k = i + 1
    while tree[i][0] in ("row", "fields") and k < tree[i][3]:
        if tree[k][0] == "name":
            found.append((tree[k][1], k + 1, value_of(text[tree[k][1]:tree[k][2]])[1]))
        else:
            found.append((tree[k][1], k, tuple(b"%d" % len(found))))
        k = tree[k][3]
    return found


# For each value to which parts lead: the parts, its node, the node round it and its place in that one.
def led(text, tree, i=0, parts=(), around=None, place=None):
    yield parts, i, around, place
    seen = []
    for k, (begin, node, part) in enumerate(inner(text, tree, i)):
        if part not in seen:
            yield from led(text, tree, node, parts + (part,), i, k)
        seen.append(part)


# A value with a change made to what lies in the row or fields at parts, told as a list of values or members.
def with_inner(thing, parts, change):
    kind, within = thing
    within = list(within)
    if not parts:
        change(within)
    elif kind == "row":
        k = int(bytes(parts[0]))
        within[k] = with_inner(within[k], parts[1:], change)
    else:
        k = [name for name, value in within].index(parts[0])
        within[k] = (parts[0], with_inner(within[k][1], parts[1:], change))
    return kind, tuple(within)


class Case(unittest.TestCase):
    def assert_row(self, found, expected):
        self.assertEqual(bytes(found), expected)
        self.assertIs(type(found), list)

    def assert_refused(self, refusal, function, *handed, at=None):
        kept = repr(handed)
        with self.assertRaises(GlassError) as caught:
            function(*handed)
        self.assertIs(type(caught.exception), refusal)
        self.assertEqual(repr(handed), kept)
        if at is not None:
            self.assertEqual(caught.exception.at, at)


class Interface(Case):
    def test_arguments(self):
        for function, names in ((put, "row names other"), (cut, "row names"), (add, "row names other"),
                                (add_member, "row names name other")):
            self.assertEqual(list(inspect.signature(function).parameters), names.split())


class Put(Case):
    def test_by_hand(self):
        for text, names, other, expected in (
            (b" 1 ", (), b" 2 ", b"  2  "), (b"[1]", ("0",), b"23", b"[23]"), (b"[ 1 , 2 ]", ("1",), b" [] ", b"[ 1 ,  []  ]"),
            (b'{ "a" : 1 }', ("a",), b"{ }", b'{ "a" : { } }'), (b'{"a":1,"a":2}', ("a",), b"3", b'{"a":3,"a":2}'),
            (b'{"\\u0061":[ {} ]}', ("a", "0"), b'"x"', b'{"\\u0061":[ "x" ]}'), (b"[1]", (), b"\n2\n", b"\n2\n"),
            (b"\n[1]\n", (), b"2", b"\n2\n"), (b'{"a":{"b":[1,2]}}', ("a", "b", "1"), b"-0.50", b'{"a":{"b":[1,-0.50]}}'),
        ):
            for names in (names_of(*names), tuple(names_of(*names))):
                self.assert_row(put(list(text), names, list(other)), expected)

    def test_every_value(self):
        for text in TEXTS[:38] + tuple(made_texts(100)):
            tree = nodes_of(text)
            for names, i, around, place in led(text, tree):
                for other in OTHERS:
                    changed = put(list(text), names, list(other))
                    self.assert_row(changed, text[:tree[i][1]] + other + text[tree[i][2]:])
                    old, new = value_of(text), value_of(changed)
                    if names:
                        def change(within):
                            worth = value_of(other)
                            within[place] = (names[-1], worth) if tree[around][0] == "fields" else worth
                        self.assertEqual(new, with_inner(old, names[:-1], change))
                    else:
                        self.assertEqual(new, value_of(other))

    def test_not_there(self):
        for text, names in ((b"1", ("0",)), (b"[]", ("0",)), (b"[1]", ("1",)), (b"[1]", ("-",)), (b"[1]", ("00",)), (b"{}", ("",)),
                            (b'{"a":1}', ("b",)), (b'{"a":1}', ("a", "a")), (b'{"a":1,"a":[2]}', ("a", "0"))):
            self.assert_refused(NotThere, put, list(text), names_of(*names), [49])


class Cut(Case):
    def test_by_hand(self):
        for text, names, expected in (
            (b"[1]", ("0",), b"[]"), (b"[ 1 ]", ("0",), b"[  ]"), (b"[1,2]", ("0",), b"[2]"), (b"[1,2]", ("1",), b"[1]"),
            (b"[ 1 , 2 , 3 ]", ("0",), b"[ 2 , 3 ]"), (b"[ 1 , 2 , 3 ]", ("1",), b"[ 1 , 3 ]"), (b"[ 1 , 2 , 3 ]", ("2",), b"[ 1 , 2 ]"),
            (b'{"a":1}', ("a",), b"{}"), (b'{ "a" : 1 }', ("a",), b"{  }"), (b'{ "a" : 1 , "b" : 2 }', ("a",), b'{ "b" : 2 }'),
            (b'{ "a" : 1 , "b" : 2 }', ("b",), b'{ "a" : 1 }'), (b'{"a":1,"b":2,"c":3}', ("b",), b'{"a":1,"c":3}'),
            (b'{"a":1,"a":2}', ("a",), b'{"a":2}'), (b'{"a":[1,[ 2 ]]}', ("a", "1", "0"), b'{"a":[1,[  ]]}'),
            (b'{"a":[1,[ 2 ]]}', ("a", "1"), b'{"a":[1]}'), (b'\n[{"a":1}\t,\r2]\n', ("0",), b"\n[2]\n"),
            (b'\n[2\t,\r{"a":1} ]\n', ("1",), b"\n[2 ]\n"),
        ):
            for names in (names_of(*names), tuple(names_of(*names))):
                self.assert_row(cut(list(text), names), expected)

    def test_every_value(self):
        for text in TEXTS + tuple(made_texts(200)):
            tree = nodes_of(text)
            for names, i, around, place in led(text, tree):
                if not names:
                    continue
                within = inner(text, tree, around)
                begin, end = within[place][0], tree[i][2]
                if place + 1 < len(within):
                    end = within[place + 1][0]
                elif place > 0:
                    begin = tree[within[place - 1][1]][2]
                changed = cut(list(text), names)
                self.assert_row(changed, text[:begin] + text[end:])
                self.assertEqual(value_of(changed), with_inner(value_of(text), names[:-1], lambda inside: inside.pop(place)))

    def test_not_there(self):
        for text, names in ((b"1", ()), (b"[1]", ()), (b'{"a":1}', ()), (b"[]", ("0",)), (b"[1]", ("1",)), (b"[1]", ("-",)),
                            (b"[1]", ("01",)), (b"{}", ("a",)), (b'{"a":1}', ("b",)), (b'{"a":1}', ("a", "0")), (b"1", ("0",))):
            self.assert_refused(NotThere, cut, list(text), names_of(*names))
            self.assert_refused(NotThere, cut, list(text), tuple(names_of(*names)))


class Add(Case):
    def test_by_hand(self):
        for text, names, other, expected in (
            (b"[]", (), b"1", b"[1]"), (b"[ ]", (), b"1", b"[1 ]"), (b"[\n]", (), b" 1 ", b"[ 1 \n]"), (b"[1]", (), b"2", b"[1,2]"),
            (b" [ 1 ] ", (), b" 2 ", b" [ 1, 2  ] "), (b"[1,[ 2 , {} ] ]", ("1",), b"3", b"[1,[ 2 , {},3 ] ]"),
            (b"[1,[2]]", (), b"3", b"[1,[2],3]"), (b'{"a":[]}', ("a",), b"{}", b'{"a":[{}]}'),
        ):
            for names in (names_of(*names), tuple(names_of(*names))):
                self.assert_row(add(list(text), names, list(other)), expected)

    def test_members_by_hand(self):
        for text, names, name, other, expected in (
            (b"{}", (), "a", b"1", b'{"a":1}'), (b"{ }", (), "a", b"1", b'{"a":1 }'), (b"{\n}", (), "", b" 1 ", b'{"": 1 \n}'),
            (b'{"a":1}', (), "b", b"2", b'{"a":1,"b":2}'), (b' { "a" : 1 } ', (), "a", b" 2 ", b' { "a" : 1,"a": 2  } '),
            (b'{"a":{"b":[] } }', ("a",), "c", b"3", b'{"a":{"b":[],"c":3 } }'), (b'[{}]', ("0",), "\"\\/\n\x01\x7f", b"[]",
                                                                                b'[{"\\"\\\\/\\n\\u0001\x7f":[]}]'),
            (b"{}", (), "\u00e9\U0001f600", b"0", '{"\u00e9\U0001f600":0}'.encode()),
        ):
            for names in (names_of(*names), tuple(names_of(*names))):
                for kind in (list, tuple):
                    self.assert_row(add_member(list(text), names, kind(map(ord, name)), list(other)), expected)

    def test_every_row_and_fields(self):
        for text in TEXTS[:38] + tuple(made_texts(200)):
            tree = nodes_of(text)
            for (names, i, around, place), other in itertools.product(led(text, tree), OTHERS):
                within = inner(text, tree, i)
                at = tree[within[-1][1]][2] if within else tree[i][1] + 1
                comma = b"," if within else b""
                if tree[i][0] == "row":
                    changed = add(list(text), names, list(other))
                    self.assert_row(changed, text[:at] + comma + other + text[at:])
                    expected = with_inner(value_of(text), names, lambda inside: inside.append(value_of(other)))
                    self.assertEqual(value_of(changed), expected)
                else:
                    self.assert_refused(NotThere, add, list(text), names, list(other))
                if tree[i][0] == "fields":
                    changed = add_member(list(text), names, [97, 34], list(other))
                    self.assert_row(changed, text[:at] + comma + b'"a\\"":' + other + text[at:])
                    expected = with_inner(value_of(text), names, lambda inside: inside.append(((97, 34), value_of(other))))
                    self.assertEqual(value_of(changed), expected)
                else:
                    self.assert_refused(NotThere, add_member, list(text), names, [97, 34], list(other))

    def test_not_there(self):
        for text, names in ((b"[]", ("0",)), (b"[[]]", ("1",)), (b"[[]]", ("-",)), (b'{"a":[]}', ("b",)), (b'{"a":{}}', ("b",)),
                            (b'{"a":1}', ("a",)), (b"1", ()), (b'"a"', ()), (b"null", ())):
            self.assert_refused(NotThere, add, list(text), names_of(*names), [49])
            self.assert_refused(NotThere, add_member, list(text), names_of(*names), [97], [49])


class Refusals(Case):
    WRONG = (b"", b"[1,]", b"x", b"[" * 65, b'"\xff"')

    def test_the_row_first(self):
        for wrong in self.WRONG:
            at = fault_of(wrong)
            for other in (b"1", b"[[,"):
                for names in ([], names_of("0"), names_of("a", "b")):
                    self.assert_refused(Fault, put, list(wrong), names, list(other), at=at)
                    self.assert_refused(Fault, cut, list(wrong), names, at=at)
                    self.assert_refused(Fault, add, list(wrong), names, list(other), at=at)
                    for name in ([97], [55296]):
                        self.assert_refused(Fault, add_member, list(wrong), names, name, list(other), at=at)

    def test_then_what_is_not_there(self):
        deep = b"[" * 64 + b"]" * 64
        for other in self.WRONG + (deep, b"1"):
            self.assert_refused(NotThere, put, list(deep), names_of("1"), list(other))
            self.assert_refused(NotThere, add, list(b"{}"), [], list(other))
            self.assert_refused(NotThere, add, list(deep), names_of("1"), list(other))
            for name in ([97], [55296], [-1]):
                self.assert_refused(NotThere, add_member, list(deep), [], name, list(other))
                self.assert_refused(NotThere, add_member, list(b"{}"), names_of("a"), name, list(other))

    def test_then_the_other_row(self):
        deep = b"[" * 64 + b"]" * 64
        for wrong in self.WRONG:
            at = fault_of(wrong)
            self.assert_refused(Fault, put, list(b"[1]"), names_of("0"), list(wrong), at=at)
            self.assert_refused(Fault, put, list(deep), names_of("0"), list(wrong), at=at)
            self.assert_refused(Fault, add, list(deep), names_of("0"), list(wrong), at=at)
            for name in ([97], [55296], [97, 1114112]):
                self.assert_refused(Fault, add_member, list(b"{}"), [], name, list(wrong), at=at)

    def test_then_the_name(self):
        deep = b"[" * 64 + b"]" * 64
        for number in (-1, 55296, 57343, 1114112, 10 ** 4000):
            for name in ([number], [97, number], [number, 97], (number,)):
                for other in (b"1", deep):
                    self.assert_refused(NoPoint, add_member, list(b"{}"), [], name, list(other))
                    self.assert_refused(NoPoint, add_member, list(b'[{"a":1}]'), names_of("0"), name, list(other))


class Deep(Case):
    def nest(self, count, within=b""):
        return b"[" * count + within + b"]" * count

    def test_put(self):
        for count in (0, 1, 30, 63, 64):
            text, names = self.nest(count, b"1"), names_of("0") * count
            changed = put(list(text), names, list(self.nest(64 - count, b"2")))
            self.assert_row(changed, self.nest(64, b"2"))
            if count > 0:
                self.assert_refused(TooDeep, put, list(text), names, list(self.nest(65 - count, b"2")))
                self.assert_refused(TooDeep, put, list(text), names, list(b'{"a":' + self.nest(64 - count, b"0") + b"}"))
        self.assert_row(put(list(self.nest(64)), [], list(self.nest(64))), self.nest(64))
        self.assert_row(put(list(self.nest(64)), names_of("0") * 10, list(b"{}")), self.nest(10, b"{}"))

    def test_add(self):
        for count in (1, 2, 40, 63, 64):
            text, names = self.nest(count), names_of("0") * (count - 1)
            self.assert_row(add(list(text), names, list(self.nest(64 - count, b"0"))), self.nest(64, b"0"))
            self.assert_refused(TooDeep, add, list(text), names, list(self.nest(65 - count)))
            text = self.nest(count, b"1")
            other = self.nest(64 - count, b"0")
            self.assert_row(add(list(text), names, list(other)), self.nest(count, b"1," + other))
            self.assert_refused(TooDeep, add, list(text), names, list(self.nest(65 - count)))

    def test_add_member(self):
        for count in (0, 1, 40, 62, 63):
            text, names = self.nest(count, b"{}"), names_of("0") * count
            other = self.nest(63 - count, b"0")
            self.assert_row(add_member(list(text), names, [], list(other)), self.nest(count, b'{"":' + other + b"}"))
            self.assert_refused(TooDeep, add_member, list(text), names, [91], list(self.nest(64 - count)))

    def test_brackets_in_names_and_texts_are_none(self):
        text = self.nest(63, b"{}")
        changed = add_member(list(text), names_of("0") * 63, [91, 123], list(b'"[[["'))
        self.assert_row(changed, self.nest(63, b'{"[{":"[[["}'))

    def test_cut_of_the_deepest(self):
        self.assert_row(cut(list(self.nest(64)), names_of("0") * 63), self.nest(63))


class Handed(Case):
    def test_stays_and_each_list_is_new(self):
        row, names, name, other = list(b'{"a":[1]}'), names_of("a"), [98], list(b"2")
        kept = list(row), list(names), list(name), list(other)
        for ask in (lambda: put(row, names, other), lambda: put(row, [], other), lambda: cut(row, names),
                    lambda: add(row, names, other), lambda: add_member(row, [], name, other), lambda: put(other, [], other)):
            first, second = ask(), ask()
            self.assertEqual((row, names, name, other), kept)
            self.assertIsNot(first, second)
            self.assertIsNot(first, row)
            self.assertIsNot(first, other)
            first.append(0)
            self.assertEqual(ask(), second)

    def test_places_agree(self):
        for text in made_texts(50, seed=9):
            found = [names for names, i, around, place in led(text, nodes_of(text))]
            self.assertEqual(found, [names for names, value in places(value_of(text))])


if __name__ == "__main__":
    unittest.main()
