"""Promises 7 and 8: odd partings, unlike ones, and those that are their own turn."""

import unittest

from stairparts.errors import NoFit
from stairparts.kinds import bends_of, odd_of, unbent, unlike_of
from stairparts.partings import is_parting, turned
from tests.samples import boxes_of, is_odd, is_unlike, own_turns, partings_of, small_partings, small_stair

# Odd partings, and the unlike ones that are made of them.
ODD_AND_UNLIKE = [
    ([], []),
    ([1], [1]),
    ([1, 1], [2]),
    ([1, 1, 1], [2, 1]),
    ([1] * 4, [4]),
    ([1] * 5, [4, 1]),
    ([1] * 7, [4, 2, 1]),
    ([1] * 8, [8]),
    ([3], [3]),
    ([3, 3], [6]),
    ([3, 1], [3, 1]),
    ([3, 1, 1, 1], [3, 2, 1]),
    ([3, 3, 1, 1], [6, 2]),
    ([3, 3, 3, 1, 1, 1], [6, 3, 2, 1]),
    ([5, 3, 3, 3, 1, 1], [6, 5, 3, 2]),
    ([5] * 5, [20, 5]),
    ([9, 5, 5, 5, 5, 3, 3, 3, 1, 1, 1, 1, 1], [20, 9, 6, 4, 3, 1]),
    ([1] * 200, [128, 64, 8]),
    ([1] * 127, [64, 32, 16, 8, 4, 2, 1]),
    ([25] * 8, [200]),
    ([5] * 40, [160, 40]),
    ([3] * 66 + [1, 1], [192, 6, 2]),
    ([199, 1], [199, 1]),
    ([99, 99, 1, 1], [198, 2]),
    ([27, 25, 23, 21, 19, 17, 15, 13, 11, 9, 7, 5, 3, 1, 1, 1, 1, 1],
     [27, 25, 23, 21, 19, 17, 15, 13, 11, 9, 7, 5, 4, 3, 1]),
]

GREAT_ODD = [parting for parting, _ in ODD_AND_UNLIKE] + [
    [39] * 5 + [3, 1, 1],
    [19] * 3 + [17] * 4 + [15] + [13] * 2 + [1] * 34,
    [3] * 33 + [1] * 101,
    [7] * 28 + [1] * 4,
]

GREAT_UNLIKE = [parting for _, parting in ODD_AND_UNLIKE] + [
    small_stair(19),
    [29] + small_stair(18),
    [38, 36, 34, 32, 28, 20, 12],
    [150, 50],
    [196, 4],
    [128, 32, 16, 8, 4, 2],
]

# Partings that are their own turn, and their bends.
OWN_TURN_AND_BENDS = [
    ([], []),
    ([1], [1]),
    ([2, 1], [3]),
    ([2, 2], [3, 1]),
    ([3, 1, 1], [5]),
    ([3, 2, 1], [5, 1]),
    ([3, 3, 2], [5, 3]),
    ([3, 3, 3], [5, 3, 1]),
    ([4, 3, 3, 1], [7, 3, 1]),
    ([4, 2, 1, 1], [7, 1]),
    ([5, 2, 1, 1, 1], [9, 1]),
    ([5, 4, 3, 2, 1], [9, 5, 1]),
    ([5, 4, 4, 3, 1], [9, 5, 3]),
    ([100] + [1] * 99, [199]),
    ([100, 2] + [1] * 98, [199, 1]),
    ([99, 3, 2] + [1] * 96, [197, 3]),
    ([51, 51] + [2] * 49, [101, 99]),
    ([14] * 14, [27, 25, 23, 21, 19, 17, 15, 13, 11, 9, 7, 5, 3, 1]),
    ([16] + [14] * 13 + [1, 1], [31, 25, 23, 21, 19, 17, 15, 13, 11, 9, 7, 5, 3, 1]),
    (small_stair(19), [37, 33, 29, 25, 21, 17, 13, 9, 5, 1]),
]

NOT_UNLIKE = [[1, 1], [3, 3], [2, 2], [2, 1, 1], [5, 3, 3, 1], [5, 5, 3], [4, 4, 1], [100, 100], [1] * 200,
              [67, 67, 66]]
NOT_ODD = [[2], [2, 1], [3, 2], [4, 3, 1], [5, 4, 3], [5, 3, 2], [2, 2], [200], [198, 1, 1], [196, 3, 1]]
NOT_OWN_TURN = [[2], [1, 1], [3], [1, 1, 1], [3, 1], [2, 1, 1], [2, 2, 1], [3, 2], [4, 2, 1], [4, 3, 2, 1, 1],
                [3, 3, 3, 1], [200], [1] * 200, [20] * 10, [100, 100], [101] + [1] * 99, [14] * 14 + [4]]


def joined_in_pairs(parting):
    """The parting with two alike parts joined to one, until there are no such."""
    parts = list(parting)
    alike = [part for part in parts if parts.count(part) > 1]
    while alike:
        parts.remove(alike[0])
        parts.remove(alike[0])
        parts.append(2 * alike[0])
        alike = [part for part in parts if parts.count(part) > 1]
    return sorted(parts, reverse=True)


def halved(parting):
    """The parting with each even part halved, until there are no such."""
    parts = list(parting)
    even = [part for part in parts if part % 2 == 0]
    while even:
        parts.remove(even[0])
        parts.extend([even[0] // 2, even[0] // 2])
        even = [part for part in parts if part % 2 == 0]
    return sorted(parts, reverse=True)


def counted_bends(parting):
    """The bends of the parting, box by box."""
    boxes = boxes_of(parting)
    return [
        len([1 for row, column in boxes if row == k <= column or column == k < row])
        for k, part in enumerate(parting)
        if part > k
    ]


class KindsTest(unittest.TestCase):
    def refused(self, function, partings):
        for parting in partings:
            with self.subTest(function=function.__name__, parting=parting):
                self.assertIs(is_parting(parting), True)
                with self.assertRaises(NoFit):
                    function(parting)


class OddAndUnlikeTest(KindsTest):
    def test_of_an_odd_one_an_unlike_one(self):
        for odd, unlike in ODD_AND_UNLIKE:
            with self.subTest(odd=odd):
                self.assertEqual(unlike_of(odd), unlike)

    def test_of_an_unlike_one_an_odd_one(self):
        for odd, unlike in ODD_AND_UNLIKE:
            with self.subTest(unlike=unlike):
                self.assertEqual(odd_of(unlike), odd)

    def test_all_odd_partings_of_small_wholes(self):
        for odd in filter(is_odd, small_partings(16)):
            self.check_odd(odd)

    def test_all_unlike_partings_of_small_wholes(self):
        for unlike in filter(is_unlike, small_partings(16)):
            self.check_unlike(unlike)

    def test_great_odd_partings(self):
        for odd in GREAT_ODD:
            self.check_odd(odd)

    def test_great_unlike_partings(self):
        for unlike in GREAT_UNLIKE:
            self.check_unlike(unlike)

    def check_odd(self, odd):
        with self.subTest(odd=odd):
            unlike = unlike_of(odd)
            self.assertIs(is_parting(unlike), True)
            self.assertTrue(is_unlike(unlike))
            self.assertEqual(sum(unlike), sum(odd))
            self.assertEqual(unlike, joined_in_pairs(odd))
            self.assertEqual(odd_of(unlike), odd)

    def check_unlike(self, unlike):
        with self.subTest(unlike=unlike):
            odd = odd_of(unlike)
            self.assertIs(is_parting(odd), True)
            self.assertTrue(is_odd(odd))
            self.assertEqual(sum(odd), sum(unlike))
            self.assertEqual(odd, halved(unlike))
            self.assertEqual(unlike_of(odd), unlike)

    def test_one_part_as_often_as_fits(self):
        for part in range(1, 200, 2):
            for many in range(1, 200 // part + 1):
                self.check_odd([part] * many)

    def test_one_part(self):
        for part in range(1, 201):
            self.check_unlike([part])

    def test_as_many_odd_ones_as_unlike_ones(self):
        for whole in range(19):
            with self.subTest(whole=whole):
                odd = [parting for parting in partings_of(whole) if is_odd(parting)]
                unlike = [parting for parting in partings_of(whole) if is_unlike(parting)]
                self.assertEqual(len(odd), len(unlike))
                self.assertEqual(sorted(unlike_of(parting) for parting in odd), sorted(unlike))
                self.assertEqual(sorted(odd_of(parting) for parting in unlike), sorted(odd))

    def test_one_with_an_even_part(self):
        self.refused(unlike_of, NOT_ODD)
        self.refused(unlike_of, [parting for parting in small_partings() if not is_odd(parting)])

    def test_one_with_a_part_twice(self):
        self.refused(odd_of, NOT_UNLIKE)
        self.refused(odd_of, [parting for parting in small_partings() if not is_unlike(parting)])


class OwnTurnTest(KindsTest):
    def test_bends(self):
        for parting, bends in OWN_TURN_AND_BENDS:
            with self.subTest(parting=parting):
                self.assertEqual(bends_of(parting), bends)

    def test_unbent(self):
        for parting, bends in OWN_TURN_AND_BENDS:
            with self.subTest(bends=bends):
                self.assertEqual(unbent(bends), parting)

    def test_all_of_small_wholes_that_are_their_own_turn(self):
        for parting in own_turns(18):
            self.check_own_turn(parting)

    def test_all_unlike_odd_ones_of_small_wholes(self):
        for bends in small_partings(18):
            if is_odd(bends) and is_unlike(bends):
                self.check_bends(bends)

    def test_great_ones(self):
        for parting, bends in OWN_TURN_AND_BENDS:
            self.check_own_turn(parting)
            self.check_bends(bends)

    def test_one_bend(self):
        for bend in range(1, 200, 2):
            self.check_bends([bend])

    def test_two_bends(self):
        for bend in range(101, 200, 2):
            for other in (200 - bend, 1):
                self.check_bends([bend, other])

    def check_own_turn(self, parting):
        with self.subTest(parting=parting):
            bends = bends_of(parting)
            self.assertIs(is_parting(bends), True)
            self.assertTrue(is_odd(bends))
            self.assertTrue(is_unlike(bends))
            self.assertEqual(sum(bends), sum(parting))
            self.assertEqual(bends, counted_bends(parting))
            self.assertEqual(unbent(bends), parting)

    def check_bends(self, bends):
        with self.subTest(bends=bends):
            parting = unbent(bends)
            self.assertIs(is_parting(parting), True)
            self.assertEqual(turned(parting), parting)
            self.assertEqual(sum(parting), sum(bends))
            self.assertEqual(counted_bends(parting), bends)
            self.assertEqual(bends_of(parting), bends)

    def test_as_many_that_are_their_own_turn_as_unlike_odd_ones(self):
        own = own_turns(18)
        unlike_odd = [parting for parting in small_partings(18) if is_odd(parting) and is_unlike(parting)]
        self.assertEqual(sorted(bends_of(parting) for parting in own), sorted(unlike_odd))
        self.assertEqual(sorted(unbent(parting) for parting in unlike_odd), sorted(own))

    def test_one_that_is_not_its_own_turn(self):
        self.refused(bends_of, NOT_OWN_TURN)
        own = own_turns(8)
        self.refused(bends_of, [parting for parting in small_partings() if parting not in own])

    def test_bends_that_are_not_unlike(self):
        self.refused(unbent, NOT_UNLIKE)

    def test_bends_that_are_not_odd(self):
        self.refused(unbent, NOT_ODD)

    def test_all_small_ones_that_are_no_bends(self):
        self.refused(unbent, [
            parting for parting in small_partings(10) if not is_odd(parting) or not is_unlike(parting)
        ])


if __name__ == "__main__":
    unittest.main()
