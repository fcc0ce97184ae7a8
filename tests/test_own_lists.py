"""Promise 1: nothing handed in is changed or kept, and what is told is the asker's own."""

import copy
import unittest

from stairparts.counting import how_many, number_of, parting_of
from stairparts.errors import PartError
from stairparts.kinds import bends_of, odd_of, unbent, unlike_of
from stairparts.order import lacking_count, let_down, lies_above, way_down
from stairparts.partings import is_parting, turned
from stairparts.squares import cut_square, put_square, square_of
from tests.samples import no_partings

# The calls whose arguments are handed in, and the partings within what they tell.
CALLS = [
    (is_parting, [[3, 2, 2]]),
    (is_parting, [[]]),
    (is_parting, [[1, 2]]),
    (turned, [[]]),
    (turned, [[1]]),
    (turned, [[3, 2, 2]]),
    (turned, [[3, 2, 1]]),
    (turned, [[1] * 200]),
    (lies_above, [[4, 1], [3, 2]]),
    (lies_above, [[3, 2], [4, 1]]),
    (lies_above, [[], []]),
    (lacking_count, [[4, 1], [3, 1, 1]]),
    (lacking_count, [[3, 1, 1], [4, 1]]),
    (lacking_count, [[1, 1, 1], [3]]),
    (let_down, [[4, 1], 0, 1]),
    (let_down, [[4, 1], 0, 2]),
    (let_down, [[4, 4, 1, 1], 1, 2]),
    (way_down, [[], []]),
    (way_down, [[3, 2], [3, 2]]),
    (way_down, [[4, 1], [3, 2]]),
    (way_down, [[6], [1] * 6]),
    (way_down, [[200], [100, 100]]),
    (way_down, [[3, 2], [4, 1]]),
    (unlike_of, [[]]),
    (unlike_of, [[5, 3, 1]]),
    (unlike_of, [[3, 3, 1, 1, 1]]),
    (unlike_of, [[1] * 200]),
    (odd_of, [[]]),
    (odd_of, [[5, 3, 1]]),
    (odd_of, [[6, 4, 1]]),
    (odd_of, [[200]]),
    (bends_of, [[]]),
    (bends_of, [[1]]),
    (bends_of, [[4, 3, 3, 1]]),
    (unbent, [[]]),
    (unbent, [[1]]),
    (unbent, [[7, 3, 1]]),
    (unbent, [[199, 1]]),
    (square_of, [[]]),
    (square_of, [[4, 3, 3, 1]]),
    (cut_square, [[]]),
    (cut_square, [[2, 2]]),
    (cut_square, [[5]]),
    (cut_square, [[1, 1]]),
    (cut_square, [[5, 4, 4, 2, 1]]),
    (put_square, [[], [], 0]),
    (put_square, [[], [], 2]),
    (put_square, [[5], [], 1]),
    (put_square, [[], [2, 1], 2]),
    (put_square, [[2, 1], [3, 1], 3]),
    (how_many, [12]),
    (how_many, [12, 5]),
    (number_of, [[]]),
    (number_of, [[4, 2, 2, 1]]),
    (number_of, [[200]]),
    (parting_of, [0, 0]),
    (parting_of, [9, 13]),
    (parting_of, [200, 0]),
]

REFUSED_CALLS = [
    (lies_above, [[4, 1], [4]]),
    (lacking_count, [[4, 1], [4]]),
    (way_down, [[4, 1], [4]]),
    (let_down, [[4, 3], 0, 1]),
    (let_down, [[4, 3], 1, 0]),
    (let_down, [[4, 1], 1, 2]),
    (let_down, [[4, 1], 5, 9]),
    (unlike_of, [[4, 1, 1]]),
    (odd_of, [[4, 1, 1]]),
    (bends_of, [[4, 1, 1]]),
    (unbent, [[4, 1]]),
    (unbent, [[3, 3]]),
    (put_square, [[2, 1], [1], 1]),
    (put_square, [[2], [2], 1]),
    (put_square, [[100], [2], 10]),
    (put_square, [[2], [2], -1]),
    (how_many, [[1]]),
    (how_many, [5, [1]]),
    (parting_of, [[1], 0]),
    (parting_of, [5, [1]]),
    (parting_of, [5, 7]),
]


def lists_in(told):
    """All lists in what is told: itself, and the partings within it."""
    if not isinstance(told, (list, tuple)):
        return []
    within = [found for item in told for found in lists_in(item)]
    return [told] + within if isinstance(told, list) else within


class OwnListsTest(unittest.TestCase):
    def test_what_is_handed_in_is_as_before(self):
        for function, arguments in CALLS:
            with self.subTest(function=function.__name__, arguments=arguments):
                handed = copy.deepcopy(arguments)
                function(*handed)
                self.assertEqual(handed, arguments)

    def test_what_is_handed_in_is_as_before_where_it_is_refused(self):
        for function, arguments in REFUSED_CALLS:
            with self.subTest(function=function.__name__, arguments=arguments):
                handed = copy.deepcopy(arguments)
                with self.assertRaises(PartError):
                    function(*handed)
                self.assertEqual(handed, arguments)

    def test_what_is_no_parting_is_as_before(self):
        calls = [
            (is_parting, lambda thing: [thing]),
            (turned, lambda thing: [thing]),
            (let_down, lambda thing: [thing, 0, 1]),
            (lies_above, lambda thing: [thing, [1]]),
            (lacking_count, lambda thing: [[1], thing]),
            (way_down, lambda thing: [thing, thing]),
            (unlike_of, lambda thing: [thing]),
            (odd_of, lambda thing: [thing]),
            (bends_of, lambda thing: [thing]),
            (unbent, lambda thing: [thing]),
            (square_of, lambda thing: [thing]),
            (cut_square, lambda thing: [thing]),
            (put_square, lambda thing: [thing, [1], 3]),
            (put_square, lambda thing: [[1], thing, 3]),
            (how_many, lambda thing: [thing, thing]),
            (number_of, lambda thing: [thing]),
            (parting_of, lambda thing: [thing, thing]),
        ]
        for function, arguments_of in calls:
            for parts in ([1, 2], [3, 0], [True], [2, "1"], [200, 1], {2: 1}, {1, 2}):
                with self.subTest(function=function.__name__, parts=parts):
                    handed = copy.deepcopy(parts)
                    try:
                        function(*arguments_of(handed))
                    except PartError:
                        pass
                    self.assertEqual(handed, parts)

    def test_an_iterator_is_not_read(self):
        held = iter([2, 1])
        self.assertIs(is_parting(held), False)
        self.assertEqual(list(held), [2, 1])

    def test_what_is_told_holds_no_list_twice_nor_one_handed_in(self):
        for function, arguments in CALLS:
            with self.subTest(function=function.__name__, arguments=arguments):
                handed = copy.deepcopy(arguments)
                lists = lists_in(function(*handed))
                places = [id(found) for found in lists]
                self.assertEqual(len(places), len(set(places)))
                for argument in handed:
                    self.assertFalse([found for found in lists if found is argument])

    def test_the_same_list_handed_in_twice(self):
        both = [3, 1]
        way = way_down(both, both)
        self.assertEqual(way, [[3, 1]])
        self.assertIsNot(way[0], both)
        self.assertIs(lies_above(both, both), True)
        self.assertIsNone(lacking_count(both, both))
        self.assertEqual(put_square(both, both, 3), [6, 4, 3, 3, 1])
        self.assertEqual(both, [3, 1])

    def test_changing_what_was_told_changes_nothing_else(self):
        for function, arguments in CALLS:
            with self.subTest(function=function.__name__, arguments=arguments):
                handed = copy.deepcopy(arguments)
                told = function(*handed)
                as_told = copy.deepcopy(told)
                for found in lists_in(told):
                    found.append(77)
                self.assertEqual(handed, arguments)
                self.assertEqual(function(*handed), as_told)

    def test_changing_what_was_handed_in_changes_nothing_that_was_told(self):
        for function, arguments in CALLS:
            with self.subTest(function=function.__name__, arguments=arguments):
                handed = copy.deepcopy(arguments)
                told = function(*handed)
                as_told = copy.deepcopy(told)
                for argument in handed:
                    if isinstance(argument, list):
                        argument.append(77)
                self.assertEqual(told, as_told)
                self.assertEqual(function(*copy.deepcopy(arguments)), as_told)

    def test_asking_again_tells_lists_of_its_own(self):
        for function, arguments in CALLS:
            with self.subTest(function=function.__name__, arguments=arguments):
                handed = copy.deepcopy(arguments)
                told = function(*handed)
                again = function(*handed)
                self.assertEqual(told, again)
                places = {id(found) for found in lists_in(told)}
                self.assertFalse([found for found in lists_in(again) if id(found) in places])

    def test_one_list_asked_about_anew_behind_a_change(self):
        parts = [3, 1]
        self.assertEqual(turned(parts), [2, 1, 1])
        parts.append(2)
        self.assertIs(is_parting(parts), False)
        with self.assertRaises(PartError):
            turned(parts)
        parts[1] = 2
        self.assertIs(is_parting(parts), True)
        self.assertEqual(turned(parts), [3, 3, 1])

    def test_true_and_false_are_no_numbers(self):
        for parts in ([True], [False], [2, True], [True, True], [2, False], [3, True, 1]):
            with self.subTest(parts=parts):
                self.assertIs(is_parting(parts), False)
        for first, second in ((False, 1), (0, True), (False, True)):
            with self.subTest(first=first, second=second):
                with self.assertRaises(PartError):
                    let_down([4, 1], first, second)

        for number in (True, False):
            for call in (
                lambda: how_many(number),
                lambda: how_many(1, number),
                lambda: parting_of(number, 0),
                lambda: parting_of(2, number),
                lambda: put_square([], [], number),
            ):
                with self.subTest(number=number):
                    with self.assertRaises(PartError):
                        call()

    def test_what_is_told_in_a_tuple_is_two_lists(self):
        number, beside, beneath = cut_square([2, 2])
        self.assertIs(type(cut_square([2, 2])), tuple)
        beside.append(77)
        self.assertEqual((number, beside, beneath), (2, [77], []))
        self.assertEqual(cut_square([2, 2]), (2, [], []))

    def test_partings_that_are_as_they_were_are_lists_of_their_own(self):
        for function, parts in (
            (unlike_of, [5, 3, 1]), (odd_of, [5, 3, 1]), (bends_of, [1]), (unbent, [1]),
            (unlike_of, []), (odd_of, []), (bends_of, []), (unbent, []),
        ):
            with self.subTest(function=function.__name__, parts=parts):
                told = function(parts)
                self.assertEqual(told, parts)
                self.assertIsNot(told, parts)
        beneath = [3, 1]
        told = put_square([], beneath, 3)
        self.assertEqual(told, [3, 3, 3, 3, 1])
        self.assertIsNot(cut_square(told)[2], cut_square(told)[2])

    def test_refusing_leaves_nothing_behind(self):
        for _, thing in no_partings():
            with self.assertRaises(PartError):
                turned(thing)
        self.assertEqual(turned([3, 1]), [2, 1, 1])


if __name__ == "__main__":
    unittest.main()
