"""Promise 4: lies_above and lacking_count."""

import unittest

from stairparts.errors import NoFit
from stairparts.order import lacking_count, lies_above
from tests.samples import DOWN_FROM_200, GREAT_PARTINGS, PARTINGS, pairs_of_one_whole, partings_of


def plainly_lacking(one, other):
    """The least count of which the greatest parts of one come to less, or None."""
    for count in range(max(len(one), len(other)) + 1):
        if sum(one[:count]) < sum(other[:count]):
            return count
    return None


# One, other, the lacking count of one against the other, and of the other against one.
PAIRS = [
    ([2], [1, 1], None, 1),
    ([4, 1], [3, 2], None, 1),
    ([4, 1], [3, 1, 1], None, 1),
    ([3, 3], [3, 2, 1], None, 2),
    ([3, 2, 1], [2, 2, 2], None, 1),
    ([4, 4, 4, 1], [4, 4, 4, 1], None, None),
    ([4, 4, 4, 1], [4, 4, 3, 2], None, 3),
    ([4, 4, 4, 1], [4, 4, 3, 1, 1], None, 3),
    ([5, 1, 1, 1], [4, 4], 2, 1),
    ([3, 3], [4, 1, 1], 1, 2),
    ([2, 2, 2], [3, 1, 1, 1], 1, 3),
    ([5, 2, 2, 1], [5, 2, 1, 1, 1], None, 3),
    ([6, 3, 3, 3], [6, 4, 2, 2, 1], 2, 4),
    ([5, 5, 1, 1, 1, 1], [5, 4, 4, 1], 3, 2),
    ([200], [1] * 200, None, 1),
    ([2] * 100, [2] * 99 + [1, 1], None, 100),
    ([100, 100], [100, 99, 1], None, 2),
    ([199, 1], [198, 2], None, 1),
    ([2] + [1] * 198, [1] * 200, None, 1),
    ([10] * 20, [11] + [10] * 18 + [9], 1, None),
    ([3] + [2] * 97 + [1] * 3, [2] * 100, 100, 1),
]


class LyingAboveTest(unittest.TestCase):
    def check(self, one, other, lacking):
        with self.subTest(one=one, other=other):
            self.assertIs(lies_above(one, other), lacking is None)
            self.assertEqual(lacking_count(one, other), lacking)
            self.assertEqual(lacking is None, lacking_count(one, other) is None)

    def test_the_two_either_way_about(self):
        for one, other, lacking, lacking_back in PAIRS:
            self.check(one, other, lacking)
            self.check(other, one, lacking_back)

    def test_the_empty_list_with_itself(self):
        self.check([], [], None)

    def test_each_lies_above_itself(self):
        for parting in PARTINGS:
            self.check(parting, list(parting), None)

    def test_neither_lies_above_the_other(self):
        for one, other in (([3, 3], [4, 1, 1]), ([2, 2, 2], [3, 1, 1, 1]), ([4, 4], [5, 1, 1, 1])):
            with self.subTest(one=one, other=other):
                self.assertIs(lies_above(one, other), False)
                self.assertIs(lies_above(other, one), False)
                self.assertIsNotNone(lacking_count(one, other))
                self.assertIsNotNone(lacking_count(other, one))

    def test_all_pairs_of_small_wholes(self):
        for one, other in pairs_of_one_whole(9):
            self.check(one, other, plainly_lacking(one, other))

    def test_pairs_of_200(self):
        for one in GREAT_PARTINGS:
            for other in GREAT_PARTINGS:
                self.check(one, other, plainly_lacking(one, other))

    def test_a_row_down_from_200(self):
        for place, one in enumerate(DOWN_FROM_200):
            for other in DOWN_FROM_200[place:]:
                self.check(one, other, None)
            for higher in DOWN_FROM_200[:place]:
                self.assertIs(lies_above(one, higher), False)

    def test_one_part_lies_above_all_and_ones_beneath(self):
        for whole in range(1, 11):
            for parting in partings_of(whole):
                self.assertIs(lies_above([whole], parting), True)
                self.assertIs(lies_above(parting, [1] * whole), True)

    def test_the_lacking_count_is_a_number_from_1_on(self):
        for one, other in pairs_of_one_whole(7):
            count = lacking_count(one, other)
            if count is not None:
                self.assertIs(type(count), int)
                self.assertGreaterEqual(count, 1)


class UnlikeWholesTest(unittest.TestCase):
    def check(self, one, other):
        for function in (lies_above, lacking_count):
            with self.subTest(function=function.__name__, one=one, other=other):
                with self.assertRaises(NoFit):
                    function(one, other)

    def test_unlike_wholes(self):
        for one, other in (
            ([], [1]),
            ([1], [2]),
            ([2], [1]),
            ([2, 1], [2]),
            ([4, 1], [4, 2]),
            ([4, 1], [4, 1, 1]),
            ([5], [1, 1, 1, 1]),
            ([3, 3], [3, 3, 3]),
            ([200], [199]),
            ([1] * 200, [1] * 199),
            ([200], []),
        ):
            self.check(one, other)
            self.check(other, one)

    def test_all_small_pairs_of_unlike_wholes(self):
        for one in PARTINGS:
            for other in ([], [1], [3, 1], [2, 2, 1], [1] * 6, [200]):
                if sum(one) != sum(other):
                    self.check(one, other)


if __name__ == "__main__":
    unittest.main()
