import unittest

from plainglass import errors
from plainglass.errors import Fault, GlassError, NoDeed, NoMerge, NoNode, NoPoint, NoPointer
from plainglass.errors import NotThere, NotWhole, TooDeep

PLAIN = (NoPoint, NoNode, NotWhole, NoPointer, NotThere, TooDeep, NoMerge)
REFUSALS = (Fault, NoDeed) + PLAIN


class Classes(unittest.TestCase):
    def test_any_refusal_is_a_value_error(self):
        self.assertEqual(GlassError.__bases__, (ValueError,))

    def test_each_refusal_stands_right_below_the_one(self):
        for refusal in REFUSALS:
            with self.subTest(refusal=refusal.__name__):
                self.assertEqual(refusal.__bases__, (GlassError,))

    def test_none_stands_below_another(self):
        for refusal in REFUSALS:
            for other in REFUSALS:
                with self.subTest(refusal=refusal.__name__, other=other.__name__):
                    self.assertEqual(issubclass(refusal, other), refusal is other)

    def test_names(self):
        names = "Fault NoDeed NoPoint NoNode NotWhole NoPointer NotThere TooDeep NoMerge".split()
        self.assertEqual([refusal.__name__ for refusal in REFUSALS], names)
        for name in ["GlassError"] + names:
            self.assertEqual(getattr(errors, name).__module__, "plainglass.errors")


class Values(unittest.TestCase):
    def test_fault_has_at(self):
        for at in (0, 1, 4000, 10 ** 5000):
            self.assertEqual(Fault(at).at, at)

    def test_no_deed_has_place(self):
        for place in (0, 1, 4000, 10 ** 5000):
            self.assertEqual(NoDeed(place).place, place)

    def test_two_objects_keep_their_own(self):
        one, other = Fault(1), Fault(2)
        self.assertEqual((one.at, other.at), (1, 2))
        one, other = NoDeed(3), NoDeed(4)
        self.assertEqual((one.place, other.place), (3, 4))

    def test_raised_and_taken_as_what_they_are(self):
        for made in [Fault(7), NoDeed(7)] + [refusal("words") for refusal in PLAIN]:
            for base in (type(made), GlassError, ValueError):
                with self.subTest(made=type(made).__name__, base=base.__name__):
                    with self.assertRaises(base) as caught:
                        raise made
                    self.assertIs(caught.exception, made)


if __name__ == "__main__":
    unittest.main()
