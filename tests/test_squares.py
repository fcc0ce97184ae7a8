"""Promise 9: the square of a parting, cut and put together."""

import unittest

from stairparts.errors import NoFit
from stairparts.partings import is_parting
from stairparts.squares import cut_square, put_square, square_of
from tests.samples import GREAT_PARTINGS, PARTINGS, small_partings, small_stair

# A parting, its square, the parting beside and the one beneath.
CUT = [
    ([], 0, [], []),
    ([1], 1, [], []),
    ([2], 1, [1], []),
    ([1, 1], 1, [], [1]),
    ([2, 1], 1, [1], [1]),
    ([2, 2], 2, [], []),
    ([3, 2], 2, [1], []),
    ([3, 3], 2, [1, 1], []),
    ([2, 2, 1], 2, [], [1]),
    ([2, 2, 2, 2], 2, [], [2, 2]),
    ([3, 3, 2], 2, [1, 1], [2]),
    ([3, 3, 3], 3, [], []),
    ([5, 3, 2, 2, 1], 2, [3, 1], [2, 2, 1]),
    ([5, 4, 4, 1], 3, [2, 1, 1], [1]),
    ([6, 3, 3, 3, 1], 3, [3], [3, 1]),
    ([4, 4, 4, 4], 4, [], []),
    ([4, 4, 4, 3], 3, [1, 1, 1], [3]),
    ([5, 5, 5, 5], 4, [1, 1, 1, 1], []),
    ([200], 1, [199], []),
    ([1] * 200, 1, [], [1] * 199),
    ([100, 100], 2, [98, 98], []),
    ([2] * 100, 2, [], [2] * 98),
    ([20] * 10, 10, [10] * 10, []),
    ([10] * 20, 10, [], [10] * 10),
    ([14] * 14, 14, [], []),
    ([14] * 14 + [4], 14, [], [4]),
    ([18] + [14] * 13, 14, [4], []),
    ([16] + [14] * 13 + [1, 1], 14, [2], [1, 1]),
    (small_stair(19), 10, [9, 8, 7, 6, 5, 4, 3, 2, 1], [9, 8, 7, 6, 5, 4, 3, 2, 1]),
]


def plain_square(parting):
    """The greatest number of which the parting has so many parts no less."""
    return max(k for k in range(len(parting) + 1) if len([part for part in parting if part >= k]) >= k)


class SquareTest(unittest.TestCase):
    def test_the_number(self):
        for parting, number, _, _ in CUT:
            with self.subTest(parting=parting):
                self.assertEqual(square_of(parting), number)

    def test_the_number_of_all(self):
        for parting in PARTINGS + small_partings(14):
            with self.subTest(parting=parting):
                self.assertEqual(square_of(parting), plain_square(parting))
                self.assertIs(type(square_of(parting)), int)

    def test_cut(self):
        for parting, number, beside, beneath in CUT:
            with self.subTest(parting=parting):
                told = cut_square(parting)
                self.assertIs(type(told), tuple)
                self.assertEqual(told, (number, beside, beneath))

    def test_put_together(self):
        for parting, number, beside, beneath in CUT:
            with self.subTest(parting=parting):
                self.assertEqual(put_square(beside, beneath, number), parting)

    def test_cut_and_put_together_again(self):
        for parting in PARTINGS + small_partings(14):
            with self.subTest(parting=parting):
                number, beside, beneath = cut_square(parting)
                self.assertEqual(number, plain_square(parting))
                self.assertIs(is_parting(beside), True)
                self.assertIs(is_parting(beneath), True)
                self.assertLessEqual(len(beside), number)
                self.assertLessEqual(max(beneath, default=0), number)
                self.assertEqual(number * number + sum(beside) + sum(beneath), sum(parting))
                self.assertEqual(put_square(beside, beneath, number), parting)

    def test_put_together_and_cut_again(self):
        for number in range(8):
            for beside in small_partings(6):
                for beneath in small_partings(6):
                    if len(beside) <= number and max(beneath, default=0) <= number:
                        self.check_put(beside, beneath, number)
                    else:
                        self.refused(beside, beneath, number)

    def check_put(self, beside, beneath, number):
        with self.subTest(beside=beside, beneath=beneath, number=number):
            parting = put_square(beside, beneath, number)
            self.assertIs(is_parting(parting), True)
            self.assertEqual(square_of(parting), number)
            self.assertEqual(cut_square(parting), (number, beside, beneath))

    def refused(self, beside, beneath, number):
        with self.subTest(beside=beside, beneath=beneath, number=number):
            with self.assertRaises(NoFit):
                put_square(beside, beneath, number)

    def test_squares_alone(self):
        for number in range(15):
            with self.subTest(number=number):
                self.assertEqual(put_square([], [], number), [number] * number)
                self.assertEqual(cut_square([number] * number), (number, [], []))

    def test_a_whole_of_200(self):
        for beside, beneath, number in (
            ([199], [], 1),
            ([], [1] * 199, 1),
            ([100], [1] * 99, 1),
            ([98, 98], [], 2),
            ([100], [], 10),
            ([50, 40], [10], 10),
            ([4], [], 14),
            ([], [4], 14),
            ([], [1] * 4, 14),
            ([1] * 4, [], 14),
            ([2, 1], [1], 14),
            ([31], [], 13),
            ([1] * 13, [13, 5], 13),
        ):
            self.assertEqual(number * number + sum(beside) + sum(beneath), 200)
            self.check_put(beside, beneath, number)

    def test_a_whole_of_201_and_more(self):
        for beside, beneath, number in (
            ([200], [], 1),
            ([], [1] * 200, 1),
            ([100], [1] * 100, 1),
            ([200], [1] * 200, 1),
            ([101], [], 10),
            ([50, 41], [10], 10),
            ([5], [], 14),
            ([], [5], 14),
            ([4], [1], 14),
            ([200], [], 14),
            ([1] * 14, [14], 14),
            ([], [], 15),
            ([], [], 16),
            ([], [], 200),
            ([], [], 201),
            ([], [200], 200),
            ([1] * 200, [200], 200),
        ):
            self.refused(beside, beneath, number)

    def test_very_great_numbers(self):
        for word, number in (
            ("10 to the 6th", 10 ** 6), ("2 to the 63rd", 2 ** 63), ("2 to the 64th", 2 ** 64),
            ("of 100 digits", 10 ** 99), ("of 5000 digits", 10 ** 4999), ("of many millions of digits", 1 << 10 ** 8),
        ):
            for beside, beneath in (([], []), ([1], []), ([], [1]), ([200], [200]), ([1] * 200, [1] * 200)):
                with self.subTest(word, beside=beside, beneath=beneath), self.assertRaises(NoFit):
                    put_square(beside, beneath, number)

    def test_beside_with_too_many_parts(self):
        for beside, beneath, number in (
            ([1], [], 0),
            ([200], [], 0),
            ([1, 1], [], 1),
            ([5, 1], [], 1),
            ([3, 2, 1], [], 2),
            ([1] * 11, [], 10),
            ([1] * 4, [3], 3),
            ([1] * 200, [], 1),
        ):
            self.refused(beside, beneath, number)

    def test_beneath_with_a_part_too_great(self):
        for beside, beneath, number in (
            ([], [1], 0),
            ([], [200], 0),
            ([], [2], 1),
            ([], [2, 1], 1),
            ([], [3], 2),
            ([1], [3, 1, 1], 2),
            ([], [11], 10),
            ([], [190], 1),
        ):
            self.refused(beside, beneath, number)

    def test_the_number_0(self):
        self.assertEqual(put_square([], [], 0), [])
        for parting in small_partings(5) + GREAT_PARTINGS:
            if parting:
                self.refused(parting, [], 0)
                self.refused([], parting, 0)
                self.refused(parting, parting, 0)


if __name__ == "__main__":
    unittest.main()
