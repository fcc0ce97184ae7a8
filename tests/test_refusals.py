"""Promise 2: what is no parting is refused with NoParting, ahead of all else."""

import unittest

from stairparts.errors import NoFit, NoParting
from stairparts.order import lacking_count, let_down, lies_above, way_down
from stairparts.partings import turned
from tests.samples import NO_NUMBERS, no_partings

OF_TWO = [lies_above, lacking_count, way_down]
PARTINGS = [[], [1], [2, 1], [3], [1, 1, 1], [200], [1] * 200]


class RefusalsTest(unittest.TestCase):
    def test_the_one_parting(self):
        for word, thing in no_partings():
            with self.subTest(word):
                with self.assertRaises(NoParting):
                    turned(thing)

    def test_the_first_of_two(self):
        for function in OF_TWO:
            for word, thing in no_partings():
                for parting in PARTINGS:
                    with self.subTest(word, function=function.__name__, other=parting):
                        with self.assertRaises(NoParting):
                            function(thing, parting)

    def test_the_second_of_two(self):
        for function in OF_TWO:
            for word, thing in no_partings():
                for parting in PARTINGS:
                    with self.subTest(word, function=function.__name__, one=parting):
                        with self.assertRaises(NoParting):
                            function(parting, thing)

    def test_both_of_two(self):
        for function in OF_TWO:
            for word, thing in no_partings():
                with self.subTest(word, function=function.__name__):
                    for other in ([1, 2], None, "21", [0], [201], thing):
                        with self.assertRaises(NoParting):
                            function(thing, other)

    def test_of_the_same_whole(self):
        for function in OF_TWO:
            for thing, parting in (([1, 2], [3]), ([3, 0], [3]), ([2, True], [3]), ([3, 1, -1], [3]), ((3,), [3])):
                with self.subTest(function=function.__name__, thing=thing):
                    with self.assertRaises(NoParting):
                        function(thing, parting)
                    with self.assertRaises(NoParting):
                        function(parting, thing)

    def test_let_down_at_good_places(self):
        for word, thing in no_partings():
            for first, second in ((0, 1), (0, 2), (1, 2)):
                with self.subTest(word, first=first, second=second):
                    with self.assertRaises(NoParting):
                        let_down(thing, first, second)

    def test_let_down_at_places_that_are_none(self):
        for word, thing in no_partings():
            for first, second in ((0, 0), (1, 0), (-1, 0), (0, -1), (-2, -1), (0, 999), (999, 1000)):
                with self.subTest(word, first=first, second=second):
                    with self.assertRaises(NoParting):
                        let_down(thing, first, second)

    def test_let_down_at_what_is_no_number(self):
        for word, thing in no_partings():
            for place_word, place in NO_NUMBERS:
                with self.subTest(word, place=place_word):
                    for first, second in ((place, 1), (0, place), (place, place)):
                        with self.assertRaises(NoParting):
                            let_down(thing, first, second)

    def test_what_would_be_a_parting_with_the_box_let_down(self):
        for thing, first, second in (([3, 1, 2], 0, 1), ([201], 0, 1), ([2, 0], 0, 1), ([3, 1, 0], 0, 2)):
            with self.subTest(thing=thing):
                with self.assertRaises(NoParting):
                    let_down(thing, first, second)

    def test_partings_are_not_refused_so(self):
        for function in OF_TWO:
            for one in PARTINGS:
                for other in PARTINGS:
                    with self.subTest(function=function.__name__, one=one, other=other):
                        if sum(one) == sum(other):
                            function(one, other)
                        else:
                            with self.assertRaises(NoFit):
                                function(one, other)


if __name__ == "__main__":
    unittest.main()
