"""Promise 6: the ways down, and turning the order about."""

import unittest

from stairparts.errors import NoFit
from stairparts.order import let_down, lies_above, way_down
from stairparts.partings import is_parting, turned
from tests.samples import DOWN_FROM_200, GREAT_PARTINGS, PARTINGS, pairs_of_one_whole, partings_of, small_stair


def is_let_down(parting, lower):
    """Tell whether lower is the parting with one box let down."""
    length = max(len(parting), len(lower))
    ahead = parting + [0] * (length - len(parting))
    behind = lower + [0] * (length - len(lower))
    steps = [new - old for old, new in zip(ahead, behind) if new != old]
    return steps == [-1, 1] and len(lower) <= len(parting) + 1


def steps_down(parting):
    """All partings that are this one with a box let down."""
    found = []
    for first in range(len(parting)):
        for second in range(first + 1, len(parting) + 1):
            try:
                found.append(let_down(parting, first, second))
            except NoFit:
                pass
    return found


def all_reached(parting):
    """All partings to which a row of partings leads, each the one ahead with a box let down."""
    reached = [parting]
    for above in reached:
        reached.extend(lower for lower in steps_down(above) if lower not in reached)
    return reached


class WayDownTest(unittest.TestCase):
    def check_way(self, one, other):
        with self.subTest(one=one, other=other):
            way = way_down(one, other)
            self.assertIs(type(way), list)
            self.assertEqual(way[0], one)
            self.assertEqual(way[-1], other)
            for parting in way:
                self.assertIs(is_parting(parting), True)
            for parting, lower in zip(way, way[1:]):
                self.assertTrue(is_let_down(parting, lower), (parting, lower))

    def test_ways_of_one_step_or_two(self):
        self.assertEqual(way_down([2], [1, 1]), [[2], [1, 1]])
        self.assertEqual(way_down([3], [1, 1, 1]), [[3], [2, 1], [1, 1, 1]])
        self.assertEqual(way_down([3, 2, 1], [2, 2, 2]), [[3, 2, 1], [2, 2, 2]])

    def test_the_same_one_twice(self):
        for parting in PARTINGS:
            with self.subTest(parting=parting):
                self.assertEqual(way_down(parting, list(parting)), [parting])

    def test_the_empty_list_with_itself(self):
        self.assertEqual(way_down([], []), [[]])

    def test_all_pairs_of_small_wholes(self):
        for one, other in pairs_of_one_whole(9):
            if lies_above(one, other):
                self.check_way(one, other)
            else:
                with self.subTest(one=one, other=other):
                    self.assertIsNone(way_down(one, other))

    def test_pairs_of_200(self):
        for one in GREAT_PARTINGS:
            for other in GREAT_PARTINGS:
                if lies_above(one, other):
                    self.check_way(one, other)
                else:
                    self.assertIsNone(way_down(one, other))

    def test_a_row_down_from_200(self):
        for place, one in enumerate(DOWN_FROM_200):
            for other in DOWN_FROM_200[place:]:
                self.check_way(one, other)

    def test_great_pairs(self):
        for one, other in (
            ([200], [1] * 200),
            ([100, 100], [2] * 100),
            ([150, 50], [50, 50, 50, 50]),
            ([199], [100, 99]),
            ([190], small_stair(19)),
            (small_stair(19), [1] * 190),
            ([60, 60, 40, 40], [50, 50, 50, 50]),
            ([50] * 4, [40] * 5),
        ):
            self.check_way(one, other)
            self.assertIsNone(way_down(other, one))

    def test_none_where_the_first_does_not_lie_above(self):
        for one, other in (([1, 1], [2]), ([3, 2], [4, 1]), ([3, 3], [4, 1, 1]), ([4, 1, 1], [3, 3])):
            with self.subTest(one=one, other=other):
                self.assertIsNone(way_down(one, other))

    def test_unlike_wholes(self):
        for one, other in (([], [1]), ([2], [1]), ([4, 1], [3, 1]), ([3, 3], [3, 3, 3]), ([200], [199]), ([5], [2, 2])):
            for first, second in ((one, other), (other, one)):
                with self.subTest(one=first, other=second):
                    with self.assertRaises(NoFit):
                        way_down(first, second)


class OrderTest(unittest.TestCase):
    def test_above_just_where_a_row_leads_down(self):
        for whole in range(9):
            for one in partings_of(whole):
                reached = all_reached(one)
                for other in partings_of(whole):
                    with self.subTest(one=one, other=other):
                        self.assertIs(lies_above(one, other), other in reached)

    def test_turning_turns_the_order_about(self):
        for one, other in pairs_of_one_whole(9):
            with self.subTest(one=one, other=other):
                self.assertIs(lies_above(one, other), lies_above(turned(other), turned(one)))

    def test_turning_turns_the_order_of_great_ones_about(self):
        for one in GREAT_PARTINGS:
            for other in GREAT_PARTINGS:
                with self.subTest(one=one, other=other):
                    self.assertIs(lies_above(one, other), lies_above(turned(other), turned(one)))


if __name__ == "__main__":
    unittest.main()
