"""Promises 2 and 3: what a parting is, and turning it."""

import unittest

from stairparts.partings import is_parting, turned
from tests.samples import PARTINGS, columns_of, no_partings, small_stair


class IsPartingTest(unittest.TestCase):
    def test_the_empty_list(self):
        self.assertIs(is_parting([]), True)

    def test_partings(self):
        for parting in PARTINGS:
            with self.subTest(parting=parting):
                self.assertIs(is_parting(parting), True)

    def test_partings_written_out(self):
        for parting in ([1], [2], [1, 1], [2, 1], [3, 3, 3], [5, 4, 4, 1], [9, 1, 1, 1]):
            with self.subTest(parting=parting):
                self.assertIs(is_parting(parting), True)

    def test_a_whole_of_200(self):
        for parting in ([200], [199, 1], [100, 100], [2] * 100, [1] * 200, [20] * 10):
            with self.subTest(parting=parting):
                self.assertIs(is_parting(parting), True)

    def test_a_whole_of_201(self):
        for parts in ([201], [200, 1], [199, 1, 1], [101, 100], [67, 67, 67], [3] * 67, [1] * 201):
            with self.subTest(parts=parts):
                self.assertEqual(sum(parts), 201)
                self.assertIs(is_parting(parts), False)

    def test_what_is_none(self):
        for word, thing in no_partings():
            with self.subTest(word):
                self.assertIs(is_parting(thing), False)


class TurnedTest(unittest.TestCase):
    def test_the_empty_list(self):
        self.assertEqual(turned([]), [])

    def test_one_part(self):
        for part in (1, 2, 3, 17, 199, 200):
            with self.subTest(part=part):
                self.assertEqual(turned([part]), [1] * part)

    def test_ones(self):
        for many in (1, 2, 3, 17, 199, 200):
            with self.subTest(many=many):
                self.assertEqual(turned([1] * many), [many])

    def test_its_own_turn(self):
        own = [[1], [2, 1], [2, 2], [3, 1, 1], [3, 2, 1], [3, 3, 2], [4, 3, 3, 1], [5, 2, 1, 1, 1], [14] * 14]
        for parting in own + [small_stair(steps) for steps in range(20)]:
            with self.subTest(parting=parting):
                self.assertEqual(turned(parting), parting)

    def test_not_its_own_turn(self):
        for one, other in (
            ([2], [1, 1]),
            ([3, 1], [2, 1, 1]),
            ([4, 2, 2, 1], [4, 3, 1, 1]),
            ([3, 3], [2, 2, 2]),
            ([5, 5, 1], [3, 2, 2, 2, 2]),
            ([7, 4, 4, 2], [4, 4, 3, 3, 1, 1, 1]),
        ):
            with self.subTest(one=one):
                self.assertEqual(turned(one), other)
                self.assertEqual(turned(other), one)

    def test_a_whole_of_200(self):
        for one, other in (
            ([199, 1], [2] + [1] * 198),
            ([100, 100], [2] * 100),
            ([20] * 10, [10] * 20),
            ([101] + [1] * 99, [100] + [1] * 100),
            ([67, 67, 66], [3] * 66 + [2]),
        ):
            with self.subTest(one=one):
                self.assertEqual(turned(one), other)
                self.assertEqual(turned(other), one)

    def test_the_columns_of_the_stair(self):
        for parting in PARTINGS:
            with self.subTest(parting=parting):
                self.assertEqual(turned(parting), columns_of(parting))

    def test_the_turn_is_a_parting_of_the_same_whole(self):
        for parting in PARTINGS:
            with self.subTest(parting=parting):
                self.assertIs(is_parting(turned(parting)), True)
                self.assertEqual(sum(turned(parting)), sum(parting))

    def test_turned_twice(self):
        for parting in PARTINGS:
            with self.subTest(parting=parting):
                self.assertEqual(turned(turned(parting)), parting)


if __name__ == "__main__":
    unittest.main()
