"""Promise 10: how many partings there are, and their numbers in order."""

import unittest

from stairparts.counting import how_many, number_of, parting_of
from stairparts.errors import NoNumber
from stairparts.partings import is_parting
from tests.samples import GREAT_PARTINGS, partings_of, small_partings

FIRST_COUNTS = [1, 1, 2, 3, 5, 7, 11, 15, 22, 30, 42, 56, 77, 101, 135, 176, 231, 297, 385, 490, 627]
ALL_OF_200 = 3972999029388


def counts_by_fives(greatest):
    """How many partings each whole has, by Euler's numbers 1, 2, 5, 7, 12, 15 .."""
    counts = [1]
    for whole in range(1, greatest + 1):
        count = 0
        for k in range(1, whole + 1):
            for five in (k * (3 * k - 1) // 2, k * (3 * k + 1) // 2):
                if five <= whole:
                    count += counts[whole - five] if k % 2 == 1 else -counts[whole - five]
        counts.append(count)
    return counts


def next_behind(parting):
    """The parting right behind this one in order; None behind the last."""
    # The last part but one, or an earlier one, becomes greater by one; all behind it are ones.
    for place in range(len(parting) - 2, -1, -1):
        if place == 0 or parting[place - 1] > parting[place]:
            rest = sum(parting[place + 1:]) - 1
            return parting[:place] + [parting[place] + 1] + [1] * rest
    return None


class HowManyTest(unittest.TestCase):
    def test_small_wholes(self):
        for whole, many in enumerate(FIRST_COUNTS):
            with self.subTest(whole=whole):
                self.assertEqual(how_many(whole), many)
                self.assertEqual(how_many(whole, None), many)
                self.assertEqual(how_many(whole, most=None), many)

    def test_known_ones_of_great_wholes(self):
        self.assertEqual(how_many(50), 204226)
        self.assertEqual(how_many(100), 190569292)
        self.assertEqual(how_many(150), 40853235313)
        self.assertEqual(how_many(199), 3646072432125)
        self.assertEqual(how_many(200), ALL_OF_200)
        self.assertEqual(how_many(200, None), ALL_OF_200)

    def test_each_whole(self):
        for whole, many in enumerate(counts_by_fives(200)):
            with self.subTest(whole=whole):
                self.assertEqual(how_many(whole), many)

    def test_all_small_wholes_with_each_most(self):
        for whole in range(15):
            for most in range(whole + 3):
                with self.subTest(whole=whole, most=most):
                    self.assertEqual(how_many(whole, most), len(partings_of(whole, most)))

    def test_the_whole_0(self):
        self.assertEqual(how_many(0), 1)
        for most in (None, 0, 1, 2, 200, 201, 10 ** 30):
            self.assertEqual(how_many(0, most), 1)

    def test_a_most_of_0(self):
        for whole in range(1, 201):
            self.assertEqual(how_many(whole, 0), 0)

    def test_a_most_of_1(self):
        for whole in range(201):
            self.assertEqual(how_many(whole, 1), 1)

    def test_a_most_of_2(self):
        for whole in range(201):
            self.assertEqual(how_many(whole, 2), whole // 2 + 1)

    def test_a_most_of_3(self):
        for whole in range(201):
            # The whole number nearest to (whole + 3) squared by 12.
            self.assertEqual(how_many(whole, 3), ((whole + 3) ** 2 + 6) // 12)

    def test_a_most_less_by_one_than_the_whole(self):
        for whole in range(1, 201):
            self.assertEqual(how_many(whole, whole - 1), how_many(whole) - 1)

    def test_a_most_that_is_the_whole_or_more(self):
        for whole in (1, 2, 3, 10, 57, 199, 200):
            for word, most in (
                ("the whole", whole), ("one more", whole + 1), ("two more", whole + 2), ("200", 200), ("201", 201),
                ("1000", 1000), ("a great one", 10 ** 30), ("a very great one", 10 ** 5000),
            ):
                with self.subTest(word, whole=whole):
                    self.assertEqual(how_many(whole, most), how_many(whole))

    def test_a_most_from_half_the_whole_on(self):
        counts = counts_by_fives(200)
        # At most one part is greater than half the whole; the others are any of what is left.
        for most in range(100, 201):
            with self.subTest(most=most):
                self.assertEqual(how_many(200, most), ALL_OF_200 - sum(counts[:200 - most]))

    def test_each_most_of_200(self):
        for most in range(1, 201):
            with self.subTest(most=most):
                with_most = how_many(200, most) - how_many(200, most - 1)
                self.assertEqual(with_most, how_many(200 - most, most))

    def test_a_number_is_told(self):
        for whole, most in ((0, None), (0, 0), (5, None), (5, 0), (5, 3), (200, 200)):
            self.assertIs(type(how_many(whole, most)), int)


class NumbersTest(unittest.TestCase):
    def test_the_partings_of_5_in_order(self):
        in_order = [[1] * 5, [2, 1, 1, 1], [2, 2, 1], [3, 1, 1], [3, 2], [4, 1], [5]]
        for number, parting in enumerate(in_order):
            with self.subTest(parting=parting):
                self.assertEqual(number_of(parting), number)
                self.assertEqual(parting_of(5, number), parting)

    def test_all_partings_of_small_wholes_in_order(self):
        for whole in range(17):
            for number, parting in enumerate(sorted(partings_of(whole))):
                with self.subTest(parting=parting):
                    self.assertEqual(number_of(parting), number)
                    self.assertEqual(parting_of(whole, number), parting)

    def test_the_empty_list(self):
        self.assertEqual(number_of([]), 0)
        self.assertEqual(parting_of(0, 0), [])

    def test_the_first_and_the_last_of_each_whole(self):
        for whole in range(1, 201):
            with self.subTest(whole=whole):
                last = how_many(whole) - 1
                self.assertEqual(number_of([1] * whole), 0)
                self.assertEqual(parting_of(whole, 0), [1] * whole)
                self.assertEqual(number_of([whole]), last)
                self.assertEqual(parting_of(whole, last), [whole])

    def test_known_ones_of_200(self):
        for number, parting in (
            (0, [1] * 200),
            (1, [2] + [1] * 198),
            (2, [2, 2] + [1] * 196),
            (99, [2] * 99 + [1, 1]),
            (100, [2] * 100),
            (101, [3] + [1] * 197),
            (102, [3, 2] + [1] * 195),
            (ALL_OF_200 - 6, [197, 2, 1]),
            (ALL_OF_200 - 5, [197, 3]),
            (ALL_OF_200 - 4, [198, 1, 1]),
            (ALL_OF_200 - 3, [198, 2]),
            (ALL_OF_200 - 2, [199, 1]),
            (ALL_OF_200 - 1, [200]),
        ):
            with self.subTest(parting=parting):
                self.assertEqual(number_of(parting), number)
                self.assertEqual(parting_of(200, number), parting)

    def test_great_partings_there_and_back(self):
        for parting in GREAT_PARTINGS + small_partings():
            with self.subTest(parting=parting):
                number = number_of(parting)
                self.assertIs(type(number), int)
                self.assertTrue(0 <= number < how_many(sum(parting)))
                self.assertEqual(parting_of(sum(parting), number), parting)

    def test_numbers_of_great_wholes_there_and_back(self):
        for whole in (60, 100, 150, 199, 200):
            many = how_many(whole)
            for step in range(40):
                number = many * step // 40 + step
                with self.subTest(whole=whole, number=number):
                    parting = parting_of(whole, number)
                    self.assertIs(is_parting(parting), True)
                    self.assertEqual(sum(parting), whole)
                    self.assertEqual(number_of(parting), number)

    def test_one_right_behind_another(self):
        for whole in (30, 100, 199, 200):
            many = how_many(whole)
            for step in range(20):
                number = many * step // 20
                with self.subTest(whole=whole, number=number):
                    parting = parting_of(whole, number)
                    self.assertEqual(parting_of(whole, number + 1), next_behind(parting))
                    self.assertEqual(number_of(next_behind(parting)), number + 1)

    def test_great_partings_in_order(self):
        of_200 = sorted(parting for parting in GREAT_PARTINGS if sum(parting) == 200)
        numbers = [number_of(parting) for parting in of_200]
        self.assertEqual(numbers, sorted(set(numbers)))
        self.assertEqual(len(numbers), len(of_200))

    def test_a_number_behind_the_last(self):
        for whole in list(range(20)) + [100, 199, 200]:
            many = how_many(whole)
            parting_of(whole, many - 1)
            for word, number in (
                ("right behind", many), ("the next but one", many + 1), ("twice as many", 2 * many),
                ("a great one", 10 ** 30), ("a very great one", 10 ** 5000),
            ):
                with self.subTest(word, whole=whole):
                    with self.assertRaises(NoNumber):
                        parting_of(whole, number)


if __name__ == "__main__":
    unittest.main()
