"""[1.1], and [0.3] and [0.1] of it. Python's own UTF-8 says what is right."""

import inspect
import itertools
import unittest

from plainglass.eights import eight, eights, is_point, points
from plainglass.errors import Fault, GlassError, NoPoint

# The first and last characters of each size, and those beside the numbers that are none.
EDGES = {
    0: [0],
    127: [127],
    128: [194, 128],
    2047: [223, 191],
    2048: [224, 160, 128],
    4095: [224, 191, 191],
    4096: [225, 128, 128],
    53247: [236, 191, 191],
    53248: [237, 128, 128],
    55295: [237, 159, 191],
    57344: [238, 128, 128],
    65535: [239, 191, 191],
    65536: [240, 144, 128, 128],
    262143: [240, 191, 191, 191],
    262144: [241, 128, 128, 128],
    1048575: [243, 191, 191, 191],
    1048576: [244, 128, 128, 128],
    1114111: [244, 143, 191, 191],
}

FAR = 10 ** 3999
NO_CHARACTERS = (-1, -2, -128, 55296, 55297, 56319, 56320, 57342, 57343, 1114112, 1114113, 2097151, 2 ** 31,
                 2 ** 32 + 65, -2 ** 64, FAR, -FAR, 10 ** 4000 - 1, 1 - 10 ** 4000, 10 ** 6000, -10 ** 6000)

ALL = [number for number in range(1114112) if not 55296 <= number <= 57343]

# Every proper beginning of a character's bytes that is not empty.
BEGINNINGS = {coded[:k] for coded in (chr(number).encode() for number in ALL) for k in range(1, len(coded))}


def is_well_formed(coded):
    try:
        coded.decode()
    except UnicodeDecodeError:
        return False
    return True


def begins_well(coded):
    return is_well_formed(coded) or any(is_well_formed(coded[:-k]) and coded[-k:] in BEGINNINGS for k in (1, 2, 3))


# None for well-formed bytes, else the fault, straight from the words of [1.1].
def fault_of(row):
    coded = bytes(row)
    if is_well_formed(coded):
        return None
    return max(k for k in range(len(coded) + 1) if begins_well(coded[:k]))


class Case(unittest.TestCase):
    def assert_fault(self, row, at):
        with self.assertRaises(Fault) as caught:
            points(row)
        self.assertEqual(caught.exception.at, at, row)

    def assert_as_defined(self, row):
        fault = fault_of(row)
        if fault is None:
            self.assertEqual(points(row), [ord(sign) for sign in bytes(row).decode()])
        else:
            self.assert_fault(row, fault)


class Interface(Case):
    def test_arguments(self):
        for function, names in ((points, "row"), (is_point, "point"), (eight, "point"), (eights, "numbers")):
            self.assertEqual(list(inspect.signature(function).parameters), [names])


class IsPoint(Case):
    def test_edges(self):
        for number in EDGES:
            self.assertIs(is_point(number), True, number)

    def test_no_characters(self):
        for number in NO_CHARACTERS:
            self.assertIs(is_point(number), False)

    def test_every_number_in_reach(self):
        for number in range(-3000, 1117000):
            expected = 0 <= number <= 1114111 and not 55296 <= number <= 57343
            if is_point(number) is not expected:
                self.fail(number)


class BytesOfCharacters(Case):
    def test_edges(self):
        for number, row in EDGES.items():
            self.assertEqual(eight(number), row)

    def test_every_character(self):
        for number in ALL:
            if eight(number) != list(chr(number).encode()):
                self.fail(number)

    def test_a_row_of_none(self):
        self.assertEqual(eights([]), [])

    def test_rows_of_one(self):
        for number, row in EDGES.items():
            self.assertEqual(eights([number]), row)

    def test_rows_of_two_and_three_of_all_sizes(self):
        for count in (2, 3):
            for numbers in itertools.product(EDGES, repeat=count):
                expected = [byte for number in numbers for byte in EDGES[number]]
                self.assertEqual(eights(list(numbers)), expected)

    def test_a_long_row(self):
        numbers = list(EDGES) * 200
        self.assertEqual(eights(numbers), [byte for number in numbers for byte in EDGES[number]])

    def test_the_same_character_again(self):
        self.assertEqual(eights([8364, 8364, 65, 65]), [226, 130, 172, 226, 130, 172, 65, 65])

    def test_a_tuple_is_taken_as_a_list(self):
        self.assertEqual(eights((65, 233)), [65, 195, 169])

    def test_bytes_are_whole_numbers_and_no_truths(self):
        for byte in eight(0) + eight(1) + eights([0, 1]):
            self.assertIs(type(byte), int)


class NoCharacters(Case):
    def assert_no_point(self, function, handed):
        with self.assertRaises(NoPoint) as caught:
            function(handed)
        self.assertIsInstance(caught.exception, GlassError)
        self.assertIsInstance(caught.exception, ValueError)

    def test_eight(self):
        for number in NO_CHARACTERS:
            self.assert_no_point(eight, number)

    def test_every_number_kept_for_pairs(self):
        for number in range(55296, 57344):
            self.assert_no_point(eight, number)

    def test_eights_in_any_place(self):
        good = [65, 233, 8364, 128512]
        for number in NO_CHARACTERS:
            for at in range(len(good) + 1):
                self.assert_no_point(eights, good[:at] + [number] + good[at:])

    def test_eights_alone_and_twice(self):
        for number in NO_CHARACTERS:
            self.assert_no_point(eights, [number])
            self.assert_no_point(eights, [number, number])

    def test_two_that_would_be_a_pair(self):
        self.assert_no_point(eights, [55357, 56832])


class CharactersOfBytes(Case):
    def test_a_row_of_none(self):
        self.assertEqual(points([]), [])

    def test_edges(self):
        for number, row in EDGES.items():
            self.assertEqual(points(row), [number])

    def test_gives_back_what_eights_was_given(self):
        for numbers in itertools.product(EDGES, repeat=2):
            self.assertEqual(points(eights(list(numbers))), list(numbers))
        numbers = list(EDGES) * 100
        self.assertEqual(points(eights(numbers)), numbers)

    def test_every_character(self):
        for at in range(0, len(ALL), 1000):
            numbers = ALL[at:at + 1000]
            coded = "".join([chr(number) for number in numbers]).encode()
            if points(list(coded)) != numbers:
                self.fail(numbers[0])


class Faults(Case):
    def test_cut_within_a_character(self):
        for ahead in ([], [65], [195, 169], [226, 130, 172], [240, 159, 152, 128], [0, 194, 128]):
            for row in EDGES.values():
                for size in range(1, len(row)):
                    cut = ahead + row[:size]
                    self.assert_fault(cut, len(cut))

    def test_a_long_row_cut_anywhere(self):
        row = eights([65, 233, 8364, 128512] * 20)
        ends = [len(eights(([65, 233, 8364, 128512] * 20)[:count])) for count in range(81)]
        for size in range(len(row)):
            if size in ends:
                self.assertEqual(len(points(row[:size])), ends.index(size))
            else:
                self.assert_fault(row[:size], size)

    def test_bytes_with_which_none_begins(self):
        never = list(range(128, 194)) + list(range(245, 256))
        for byte in never:
            self.assert_fault([byte], 0)
            self.assert_fault([byte, 65], 0)
            self.assert_fault([byte, 128, 128, 128], 0)
            self.assert_fault([65, byte], 1)
            self.assert_fault([226, 130, 172, byte, 128], 3)
            self.assert_fault([240, 159, 152, 128, 195, 169, byte], 6)

    def test_bytes_with_which_none_goes_on(self):
        for row, at in (
            ([194, 127], 1), ([194, 192], 1), ([223, 65], 1),
            ([224, 128], 1), ([224, 128, 128], 1), ([224, 159, 191], 1), ([224, 160, 127], 2), ([224, 160, 192], 2),
            ([236, 160, 65], 2), ([237, 160], 1), ([237, 160, 128], 1), ([237, 191, 191], 1), ([237, 159, 65], 2),
            ([240, 128], 1), ([240, 128, 128, 128], 1), ([240, 143, 191, 191], 1), ([240, 144, 127, 128], 2),
            ([241, 128, 128, 65], 3), ([244, 144], 1), ([244, 144, 128, 128], 1), ([244, 143, 191, 192], 3),
            ([244, 191, 191, 191], 1), ([195, 195, 169], 1), ([226, 130, 226], 2), ([240, 159, 240], 2),
        ):
            for ahead in ([], [65], [195, 169], [226, 130, 172, 0], [240, 159, 152, 128]):
                self.assert_fault(ahead + row, len(ahead) + at)
                self.assert_fault(ahead + row + [65], len(ahead) + at)

    def test_two_that_are_kept_for_pairs(self):
        self.assert_fault([237, 160, 189, 237, 184, 128], 1)

    def test_the_first_of_several(self):
        self.assert_fault([65, 255, 66, 254], 1)
        self.assert_fault([195, 65, 255], 1)

    def test_every_row_of_two(self):
        for one in range(256):
            self.assert_as_defined([one])
            for other in range(256):
                self.assert_as_defined([one, other])

    def test_rows_of_three_and_four_at_the_edges(self):
        tails = (0, 127, 128, 143, 144, 159, 160, 191, 192, 244)
        for first in (65, 193, 194, 223, 224, 225, 236, 237, 238, 239, 240, 241, 243, 244, 245):
            for rest in itertools.product(tails, repeat=2):
                self.assert_as_defined([first, *rest])
            for rest in itertools.product(tails[2:9], repeat=3):
                self.assert_as_defined([first, *rest])
                self.assert_as_defined([65, first, *rest])

    def test_numbers_that_are_no_bytes(self):
        for number in (-1, 256, -128, 320, 1000):
            self.assert_fault([number], 0)
            self.assert_fault([65, number, 65], 1)
            self.assert_fault([195, number], 1)

    def test_longest_rows(self):
        self.assertEqual(points([65] * 4000), [65] * 4000)
        self.assert_fault([65] * 3999 + [255], 3999)
        self.assert_fault([65] * 3999 + [240], 4000)

    def test_is_a_refusal(self):
        self.assertRaises(GlassError, points, [255])
        self.assertRaises(ValueError, points, [255])


class Handed(Case):
    def test_points(self):
        row = [65, 195, 169]
        first, second = points(row), points(row)
        self.assertEqual(row, [65, 195, 169])
        self.assertIsNot(first, second)
        first.append(0)
        self.assertEqual((row, second, points(row)), ([65, 195, 169], [65, 233], [65, 233]))

    def test_points_of_ascii_is_another_list(self):
        for row in ([], [65], [65, 66]):
            self.assertIsNot(points(row), row)

    def test_points_of_a_fault(self):
        row = [65, 255, 66]
        self.assert_fault(row, 1)
        self.assertEqual(row, [65, 255, 66])

    def test_eight(self):
        for number, row in EDGES.items():
            first, second = eight(number), eight(number)
            self.assertIsNot(first, second)
            first.append(0)
            self.assertEqual((second, eight(number)), (row, row))

    def test_eights(self):
        numbers = [65, 233]
        first, second = eights(numbers), eights(numbers)
        self.assertEqual(numbers, [65, 233])
        self.assertIsNot(first, second)
        first.append(0)
        self.assertEqual((numbers, second, eights(numbers)), ([65, 233], [65, 195, 169], [65, 195, 169]))

    def test_eights_of_ascii_is_another_list(self):
        for numbers in ([], [65], [65, 66]):
            self.assertIsNot(eights(numbers), numbers)

    def test_eights_of_no_characters(self):
        numbers = [65, -1, 66]
        self.assertRaises(NoPoint, eights, numbers)
        self.assertEqual(numbers, [65, -1, 66])

    def test_what_is_handed_in_is_not_kept(self):
        row = [65, 66]
        given = points(row)
        row[0] = 90
        self.assertEqual(given, [65, 66])
        given = eights(row)
        row[0] = 65
        self.assertEqual(given, [90, 66])

    def test_lists_are_given(self):
        for given in (points([65]), points([]), eight(65), eight(65536), eights([65]), eights([])):
            self.assertIs(type(given), list)


if __name__ == "__main__":
    unittest.main()
