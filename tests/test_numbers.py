"""[3.4], and the interface's words on exact, whole and told_number."""

import inspect
import itertools
import unittest

from plainglass.errors import GlassError, NoNode, NotWhole
from plainglass.nodes import nodes
from plainglass.numbers import exact, told_number, whole
from tests.model import fault_of, pair_of, value_of, worth_of

FAR = 10 ** 3999
LONG = int("7" * 2000) * 10 ** 2000 + int("3" * 2000)
NUMBERS = (0, 1, -1, 7, 10, -10, 12, 100, -1200, 123456789, 10 ** 50, -3 * 10 ** 999, 10 ** 1000, 10 ** 1001, LONG, -LONG,
           FAR, -FAR, 10 ** 4000 - 1)
POWERS = (0, 1, -1, 2, -2, 10, -10, 999, 1000, 1001, -999, -1000, -1001, 12345, FAR, -FAR, LONG, 10 ** 4000 - 1)


# The pair that one number alone writes.
def read(text):
    row = list(text)
    return exact(row, nodes(row), 0)


# The figures of a whole number, as many as there are.
def figures(number):
    if number < 0:
        return b"-" + figures(-number)
    ahead, behind = divmod(number, 10 ** 2000)
    return figures(ahead) + b"%02000d" % behind if ahead else b"%d" % behind


class Exact(unittest.TestCase):
    def test_arguments(self):
        for function, names in ((exact, "row tree i"), (whole, "number power"), (told_number, "number power")):
            self.assertEqual(list(inspect.signature(function).parameters), names.split())

    def test_by_hand(self):
        for text, pair in ((b"0", (0, 0)), (b"-0", (0, 0)), (b"0.000e5", (0, 0)), (b"-0.0E-7", (0, 0)), (b"0e99", (0, 0)),
                           (b"1", (1, 0)), (b"-1", (-1, 0)), (b"10", (1, 1)), (b"-1200", (-12, 2)), (b"1.5", (15, -1)),
                           (b"1.50", (15, -1)), (b"100.00", (1, 2)), (b"0.001", (1, -3)), (b"-0.0120", (-12, -3)),
                           (b"1e5", (1, 5)), (b"1E+5", (1, 5)), (b"1e-5", (1, -5)), (b"1e005", (1, 5)), (b"1e-005", (1, -5)),
                           (b"1e+000", (1, 0)), (b"12.5e1", (125, 0)), (b"12.5e0", (125, -1)), (b"120e-1", (12, 0)),
                           (b"-5.0e-0", (-5, 0)), (b"0.10e1", (1, 0)), (b"10e-1", (1, 0)), (b"1e400", (1, 400))):
            self.assertEqual(read(text), pair, text)
            self.assertIs(type(read(text)), tuple)
            self.assertEqual([type(part) for part in read(text)], [int, int])

    def test_every_form(self):
        for parts in itertools.product(("", "-"), ("0", "7", "70", "700", "707"), ("", ".0", ".00", ".5", ".050"),
                                       ("", "e0", "E3", "e+03", "e-2", "E-0010")):
            text = "".join(parts).encode()
            self.assertEqual(read(text), value_of(text)[1:])

    def test_within_texts(self):
        row = list(b' { "1" : [ 2 , -30.0 ], "2":1e1 } ')
        tree = nodes(row)
        pairs = [exact(row, tree, i) for i in range(len(tree)) if tree[i][0] == "number"]
        self.assertEqual(pairs, [(2, 0), (-3, 1), (1, 1)])

    def test_very_many_figures(self):
        self.assertEqual(read(b"7" * 4000), (worth_of(b"7" * 4000), 0))
        self.assertEqual(read(b"-" + b"9" * 3999), (1 - 10 ** 3999, 0))
        self.assertEqual(read(b"1" + b"0" * 3999), (1, 3999))
        self.assertEqual(read(b"0." + b"0" * 3997 + b"3"), (3, -3998))
        self.assertEqual(read(b"0." + b"0" * 3998), (0, 0))
        self.assertEqual(read(b"1e" + b"9" * 3998), (1, 10 ** 3998 - 1))
        self.assertEqual(read(b"1e-" + b"9" * 3997), (1, 1 - 10 ** 3997))
        self.assertEqual(read(b"1e" + b"0" * 3997 + b"2"), (1, 2))
        self.assertEqual(read(b"0e" + b"9" * 3998), (0, 0))
        self.assertEqual(read(b"1.25e" + b"9" * 3995), (125, 10 ** 3995 - 3))
        self.assertEqual(read(b"1" + b"0" * 2000 + b"e-2000"), (1, 0))
        self.assertEqual(read(b"3" * 5000), (worth_of(b"3" * 5000), 0))

    def test_nodes_that_are_none(self):
        row = list(b'[null,true,false,"1",[],{},{"1":2}]')
        tree = nodes(row)
        for i, node in enumerate(tree):
            if node[0] != "number":
                with self.assertRaises(NoNode) as caught:
                    exact(row, tree, i)
                self.assertIsInstance(caught.exception, GlassError)

    def test_handed(self):
        row = list(b"[10]")
        tree = nodes(row)
        kept = list(row), list(tree)
        exact(row, tree, 1)
        self.assertEqual((row, tree), kept)


class Whole(unittest.TestCase):
    def assert_not_whole(self, number, power):
        with self.assertRaises(NotWhole) as caught:
            whole(number, power)
        self.assertIsInstance(caught.exception, GlassError)

    def test_by_hand(self):
        for number, power, expected in ((1, 0, 1), (-1, 0, -1), (12, 2, 1200), (-12, 1, -120), (1200, -2, 12), (1200, -1, 120),
                                        (-50, -1, -5), (100, 3, 100000), (0, 0, 0), (0, 5, 0), (0, -5, 0)):
            self.assertEqual(whole(number, power), expected)
            self.assertIs(type(whole(number, power)), int)

    def test_none(self):
        for number, power in ((1, -1), (12, -1), (1200, -3), (-1, -1), (1, -FAR), (LONG, -1), (FAR, -4000), (-5, -2)):
            self.assert_not_whole(number, power)

    def test_nought_with_any_power(self):
        for power in POWERS + (-LONG, 10 ** 5000):
            self.assertEqual(whole(0, power), 0)

    def test_a_thousand_noughts(self):
        for number in (1, -1, 7, 123, 25, LONG):
            self.assertEqual(whole(number, 1000), number * 10 ** 1000)
            self.assertEqual(whole(number * 10, 999), number * 10 ** 1000)
            self.assertEqual(whole(number * 10 ** 1000, 0), number * 10 ** 1000)
            self.assertEqual(whole(number * 10 ** 1500, -500), number * 10 ** 1000)
            self.assert_not_whole(number, 1001)
            self.assert_not_whole(number * 10, 1000)
            self.assert_not_whole(number * 10 ** 1001, 0)
            self.assert_not_whole(number * 10 ** 1501, -500)
        self.assertEqual(whole(FAR, -2999), 10 ** 1000)
        self.assert_not_whole(FAR, -2998)
        self.assertEqual(whole(FAR, -3999), 1)
        # Divisible by two or by five often, but not by ten.
        self.assertEqual(whole(2 ** 3000, 1000), 2 ** 3000 * 10 ** 1000)
        self.assertEqual(whole(5 ** 2000, 1), 5 ** 2000 * 10)

    def test_every_pair(self):
        for number, power in itertools.product(NUMBERS, POWERS):
            low, raised = pair_of(number, power)
            if 0 <= raised <= 1000:
                self.assertEqual(whole(number, power), low * 10 ** raised)
            else:
                self.assert_not_whole(number, power)


class ToldNumber(unittest.TestCase):
    def assert_told(self, number, power, expected):
        self.assertEqual(bytes(told_number(number, power)), expected)

    def test_by_hand(self):
        for number, power, expected in ((0, 0, b"0"), (0, 7, b"0"), (0, -7, b"0"), (1, 0, b"1"), (-1, 0, b"-1"), (12, 0, b"12"),
                                        (10, 0, b"1e1"), (100, -2, b"1"), (1200, -5, b"12e-3"), (-1200, 3, b"-12e5"),
                                        (5, -1, b"5e-1"), (-5, 1, b"-5e1"), (5, 10, b"5e10"), (5, -100, b"5e-100"),
                                        (907, 0, b"907"), (-10, -1, b"-1"), (1000, -1, b"1e2")):
            self.assert_told(number, power, expected)
            self.assertIs(type(told_number(number, power)), list)

    def test_every_pair(self):
        for number, power in itertools.product(NUMBERS, POWERS):
            pair = pair_of(number, power)
            row = told_number(number, power)
            self.assertEqual(bytes(row), figures(pair[0]) + (b"e" + figures(pair[1]) if pair[1] else b""))
            self.assertIsNone(fault_of(row))
            self.assertEqual(exact(row, nodes(row), 0), pair)

    def test_somewhat_longer(self):
        for number in (10 ** 4400 - 1, 1 - 10 ** 4400, 3 * 10 ** 4400):
            for power in (10 ** 4400 - 1, 1 - 10 ** 4400):
                row = told_number(number, power)
                self.assertEqual(exact(row, nodes(row), 0), pair_of(number, power))

    def test_each_list_is_new(self):
        first, second = told_number(12, 3), told_number(12, 3)
        self.assertIsNot(first, second)
        first.append(0)
        self.assertEqual(told_number(12, 3), second)
        self.assertIsNot(told_number(0, 0), told_number(0, 0))


if __name__ == "__main__":
    unittest.main()
