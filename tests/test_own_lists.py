"""Promise 1: nothing handed in is changed or kept, and what is told is the asker's own."""

import copy
import unittest

from stairparts.errors import PartError
from stairparts.order import lacking_count, let_down, lies_above, way_down
from stairparts.partings import is_parting, turned
from tests.samples import no_partings

# The calls whose arguments are handed in, and the partings within what they tell.
CALLS = [
    (is_parting, [[3, 2, 2]]),
    (is_parting, [[]]),
    (is_parting, [[1, 2]]),
    (turned, [[]]),
    (turned, [[1]]),
    (turned, [[3, 2, 2]]),
    (turned, [[3, 2, 1]]),
    (turned, [[1] * 200]),
    (lies_above, [[4, 1], [3, 2]]),
    (lies_above, [[3, 2], [4, 1]]),
    (lies_above, [[], []]),
    (lacking_count, [[4, 1], [3, 1, 1]]),
    (lacking_count, [[3, 1, 1], [4, 1]]),
    (lacking_count, [[1, 1, 1], [3]]),
    (let_down, [[4, 1], 0, 1]),
    (let_down, [[4, 1], 0, 2]),
    (let_down, [[4, 4, 1, 1], 1, 2]),
    (way_down, [[], []]),
    (way_down, [[3, 2], [3, 2]]),
    (way_down, [[4, 1], [3, 2]]),
    (way_down, [[6], [1] * 6]),
    (way_down, [[200], [100, 100]]),
    (way_down, [[3, 2], [4, 1]]),
]

REFUSED_CALLS = [
    (lies_above, [[4, 1], [4]]),
    (lacking_count, [[4, 1], [4]]),
    (way_down, [[4, 1], [4]]),
    (let_down, [[4, 3], 0, 1]),
    (let_down, [[4, 3], 1, 0]),
    (let_down, [[4, 1], 1, 2]),
    (let_down, [[4, 1], 5, 9]),
]


def lists_in(told):
    """All lists in what is told: itself, and the partings within it."""
    if not isinstance(told, list):
        return []
    return [told] + [found for item in told for found in lists_in(item)]


class OwnListsTest(unittest.TestCase):
    def test_what_is_handed_in_is_as_before(self):
        for function, arguments in CALLS:
            with self.subTest(function=function.__name__, arguments=arguments):
                handed = copy.deepcopy(arguments)
                function(*handed)
                self.assertEqual(handed, arguments)

    def test_what_is_handed_in_is_as_before_where_it_is_refused(self):
        for function, arguments in REFUSED_CALLS:
            with self.subTest(function=function.__name__, arguments=arguments):
                handed = copy.deepcopy(arguments)
                with self.assertRaises(PartError):
                    function(*handed)
                self.assertEqual(handed, arguments)

    def test_what_is_no_parting_is_as_before(self):
        calls = [
            (is_parting, lambda thing: [thing]),
            (turned, lambda thing: [thing]),
            (let_down, lambda thing: [thing, 0, 1]),
            (lies_above, lambda thing: [thing, [1]]),
            (lacking_count, lambda thing: [[1], thing]),
            (way_down, lambda thing: [thing, thing]),
        ]
        for function, arguments_of in calls:
            for parts in ([1, 2], [3, 0], [True], [2, "1"], [200, 1], {2: 1}, {1, 2}):
                with self.subTest(function=function.__name__, parts=parts):
                    handed = copy.deepcopy(parts)
                    try:
                        function(*arguments_of(handed))
                    except PartError:
                        pass
                    self.assertEqual(handed, parts)

    def test_an_iterator_is_not_read(self):
        held = iter([2, 1])
        self.assertIs(is_parting(held), False)
        self.assertEqual(list(held), [2, 1])

    def test_what_is_told_holds_no_list_twice_nor_one_handed_in(self):
        for function, arguments in CALLS:
            with self.subTest(function=function.__name__, arguments=arguments):
                handed = copy.deepcopy(arguments)
                lists = lists_in(function(*handed))
                places = [id(found) for found in lists]
                self.assertEqual(len(places), len(set(places)))
                for argument in handed:
                    self.assertFalse([found for found in lists if found is argument])

    def test_the_same_list_handed_in_twice(self):
        both = [3, 1]
        way = way_down(both, both)
        self.assertEqual(way, [[3, 1]])
        self.assertIsNot(way[0], both)
        self.assertIs(lies_above(both, both), True)
        self.assertIsNone(lacking_count(both, both))
        self.assertEqual(both, [3, 1])

    def test_changing_what_was_told_changes_nothing_else(self):
        for function, arguments in CALLS:
            with self.subTest(function=function.__name__, arguments=arguments):
                handed = copy.deepcopy(arguments)
                told = function(*handed)
                as_told = copy.deepcopy(told)
                for found in lists_in(told):
                    found.append(77)
                self.assertEqual(handed, arguments)
                self.assertEqual(function(*handed), as_told)

    def test_changing_what_was_handed_in_changes_nothing_that_was_told(self):
        for function, arguments in CALLS:
            with self.subTest(function=function.__name__, arguments=arguments):
                handed = copy.deepcopy(arguments)
                told = function(*handed)
                as_told = copy.deepcopy(told)
                for argument in handed:
                    if isinstance(argument, list):
                        argument.append(77)
                self.assertEqual(told, as_told)
                self.assertEqual(function(*copy.deepcopy(arguments)), as_told)

    def test_asking_again_tells_lists_of_its_own(self):
        for function, arguments in CALLS:
            with self.subTest(function=function.__name__, arguments=arguments):
                handed = copy.deepcopy(arguments)
                told = function(*handed)
                again = function(*handed)
                self.assertEqual(told, again)
                places = {id(found) for found in lists_in(told)}
                self.assertFalse([found for found in lists_in(again) if id(found) in places])

    def test_one_list_asked_about_anew_behind_a_change(self):
        parts = [3, 1]
        self.assertEqual(turned(parts), [2, 1, 1])
        parts.append(2)
        self.assertIs(is_parting(parts), False)
        with self.assertRaises(PartError):
            turned(parts)
        parts[1] = 2
        self.assertIs(is_parting(parts), True)
        self.assertEqual(turned(parts), [3, 3, 1])

    def test_true_and_false_are_no_numbers(self):
        for parts in ([True], [False], [2, True], [True, True], [2, False], [3, True, 1]):
            with self.subTest(parts=parts):
                self.assertIs(is_parting(parts), False)
        for first, second in ((False, 1), (0, True), (False, True)):
            with self.subTest(first=first, second=second):
                with self.assertRaises(PartError):
                    let_down([4, 1], first, second)

    def test_refusing_leaves_nothing_behind(self):
        for _, thing in no_partings():
            with self.assertRaises(PartError):
                turned(thing)
        self.assertEqual(turned([3, 1]), [2, 1, 1])


if __name__ == "__main__":
    unittest.main()
