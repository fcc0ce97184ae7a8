"""Promise 5: a box is let down."""

import unittest

from stairparts.errors import NoFit
from stairparts.order import let_down
from stairparts.partings import is_parting
from tests.samples import GREAT_PARTINGS, NO_NUMBERS, small_partings


def plainly_let_down(parting, first, second):
    """The parting with a box let down, or None where there is none such."""
    rows = dict(enumerate(parting + [0]))
    rows[first] -= 1
    rows[second] += 1
    parts = [rows[place] for place in sorted(rows)]
    for place in range(1, len(parts)):
        if parts[place] > parts[place - 1]:
            return None
    return [part for part in parts if part > 0]


class LetDownTest(unittest.TestCase):
    def refused(self, parting, first, second):
        with self.subTest(parting=parting, first=first, second=second):
            with self.assertRaises(NoFit):
                let_down(parting, first, second)

    def test_to_a_later_part(self):
        for parting, first, second, told in (
            ([3, 1], 0, 1, [2, 2]),
            ([4, 1], 0, 1, [3, 2]),
            ([9, 1], 0, 1, [8, 2]),
            ([4, 2, 1], 0, 1, [3, 3, 1]),
            ([4, 2, 1], 0, 2, [3, 2, 2]),
            ([5, 3, 3, 1], 0, 1, [4, 4, 3, 1]),
            ([5, 3, 3, 1], 0, 3, [4, 3, 3, 2]),
            ([5, 3, 3, 1], 2, 3, [5, 3, 2, 2]),
            ([4, 4, 1, 1], 1, 2, [4, 3, 2, 1]),
            ([3, 2, 2, 1], 0, 3, [2, 2, 2, 2]),
            ([3, 2, 1], 0, 2, [2, 2, 2]),
        ):
            with self.subTest(parting=parting, first=first, second=second):
                self.assertEqual(let_down(parting, first, second), told)

    def test_to_the_0_behind_the_last_part(self):
        for parting, first, told in (
            ([2], 0, [1, 1]),
            ([5], 0, [4, 1]),
            ([200], 0, [199, 1]),
            ([4, 1], 0, [3, 1, 1]),
            ([3, 3], 1, [3, 2, 1]),
            ([2] * 100, 99, [2] * 99 + [1, 1]),
            ([2] + [1] * 198, 0, [1] * 200),
        ):
            with self.subTest(parting=parting, first=first):
                self.assertEqual(let_down(parting, first, len(parting)), told)

    def test_from_each_place_to_each_later_one(self):
        for parting in small_partings():
            for first in range(len(parting)):
                self.check_from(parting, first)

    def test_from_places_of_great_ones(self):
        for parting in GREAT_PARTINGS:
            for first in range(len(parting)):
                if first < 5 or first >= len(parting) - 5:
                    self.check_from(parting, first)

    def check_from(self, parting, first):
        for second in range(first + 1, len(parting) + 1):
            told = plainly_let_down(parting, first, second)
            if told is None:
                self.refused(parting, first, second)
            else:
                with self.subTest(parting=parting, first=first, second=second):
                    self.assertEqual(let_down(parting, first, second), told)

    def test_what_is_told_is_a_parting_of_the_same_whole(self):
        for parting in GREAT_PARTINGS:
            for first in range(min(len(parting), 12)):
                for second in range(first + 1, len(parting) + 1):
                    try:
                        told = let_down(parting, first, second)
                    except NoFit:
                        continue
                    self.assertIs(is_parting(told), True)
                    self.assertEqual(sum(told), sum(parting))

    def test_from_a_part_of_1(self):
        # A part 1 would be 0 then, and each later part, made greater, greater than it.
        for parting, first in (([1], 0), ([2, 1], 1), ([3, 1], 1), ([2, 2, 1], 2), ([4, 1, 1], 1), ([1] * 200, 199)):
            for second in range(first + 1, len(parting) + 1):
                self.refused(parting, first, second)

    def test_a_part_greater_than_the_one_ahead_then(self):
        for parting, first, second in (
            ([2, 2], 0, 1),
            ([3, 2], 0, 1),
            ([3, 3], 0, 1),
            ([3, 3], 0, 2),
            ([3, 2, 2], 0, 2),
            ([4, 2, 2], 0, 2),
            ([9, 4, 4, 4], 0, 2),
            ([9, 4, 4, 4], 0, 3),
            ([9, 4, 4, 4], 1, 4),
            ([100, 100], 0, 1),
            ([1, 1], 0, 1),
            ([1, 1], 0, 2),
            ([2, 1], 0, 1),
        ):
            self.refused(parting, first, second)

    def test_the_same_place_twice(self):
        for parting in ([], [1], [3], [3, 1], [5, 3, 1], [200]):
            for place in range(-2, len(parting) + 3):
                self.refused(parting, place, place)

    def test_a_later_place_to_an_earlier_one(self):
        for parting in ([1], [3], [3, 1], [5, 3, 1], [5, 5, 3, 3], [200], [1] * 200):
            for first in range(1, len(parting) + 2):
                for second in range(first):
                    self.refused(parting, first, second)

    def test_a_place_below_0(self):
        for parting in ([], [1], [3], [3, 1], [5, 3, 1], [9, 5, 2]):
            for below in (-1, -2, -3, -4, -(10 ** 30)):
                for place in range(-4, len(parting) + 1):
                    self.refused(parting, below, place)
                    self.refused(parting, place, below)

    def test_a_place_too_far_behind(self):
        for parting in ([], [1], [3], [3, 1], [5, 3, 1], [200]):
            for behind in (1, 2, 3, 200, 10 ** 30):
                far = len(parting) + behind
                for first in range(len(parting) + 1):
                    self.refused(parting, first, far)
                self.refused(parting, far, far + 1)
            self.refused(parting, len(parting), len(parting) + 1)

    def test_the_empty_list_has_no_box(self):
        for first in range(-2, 3):
            for second in range(-2, 3):
                self.refused([], first, second)

    def test_places_that_are_no_numbers(self):
        for parting in ([], [3], [4, 1], [5, 3, 1], [200]):
            for _, place in NO_NUMBERS:
                self.refused(parting, place, 1)
                self.refused(parting, 0, place)
                self.refused(parting, place, place)
                self.refused(parting, place, -1)

    def test_true_and_false_are_no_places(self):
        self.assertEqual(let_down([4, 1], 0, 1), [3, 2])
        self.refused([4, 1], False, 1)
        self.refused([4, 1], 0, True)
        self.refused([4, 1], False, True)
        self.refused([5, 3], True, 2)

    def test_no_other_place_of_small_partings(self):
        for parting in small_partings(6):
            for first in range(-3, len(parting) + 4):
                for second in range(-3, len(parting) + 4):
                    if not 0 <= first < second <= len(parting):
                        self.refused(parting, first, second)


if __name__ == "__main__":
    unittest.main()
