"""Promise 2: what is no parting is refused with NoParting, ahead of all else; then NoNumber."""

import unittest

from stairparts.counting import how_many, number_of, parting_of
from stairparts.errors import NoFit, NoNumber, NoParting, PartError
from stairparts.kinds import bends_of, odd_of, unbent, unlike_of
from stairparts.order import lacking_count, let_down, lies_above, way_down
from stairparts.partings import turned
from stairparts.squares import cut_square, put_square, square_of
from tests.samples import NO_COUNTS, NO_NUMBERS, NO_WHOLES, no_partings

OF_ONE = [turned, unlike_of, odd_of, bends_of, unbent, square_of, cut_square, number_of]
OF_TWO = [lies_above, lacking_count, way_down]
PARTINGS = [[], [1], [2, 1], [3], [1, 1, 1], [200], [1] * 200]


class RefusalsTest(unittest.TestCase):
    def test_the_one_parting(self):
        for function in OF_ONE:
            for word, thing in no_partings():
                with self.subTest(word, function=function.__name__):
                    with self.assertRaises(NoParting):
                        function(thing)

    def test_what_would_not_fit_either(self):
        # None is a parting; each would be refused with NoFit if it were looked at as one.
        for function, things in (
            (unlike_of, ([2, 3], [4, 0], [2, True], [202], (4, 2), [200, 2])),
            (odd_of, ([1, 2, 2], [3, 3, 0], [1, 1, True], [101, 101], (3, 3), [2, 2, 3])),
            (bends_of, ([1, 2], [2, 0], [3, True], [201], (3,), [1, 1, 2])),
            (unbent, ([1, 2], [3, 3, 0], [3, 3, True], [200, 1], (2, 2), [3, 3, 5])),
        ):
            for thing in things:
                with self.subTest(function=function.__name__, thing=thing):
                    with self.assertRaises(NoParting):
                        function(thing)

    def test_the_first_of_two(self):
        for function in OF_TWO:
            for word, thing in no_partings():
                for parting in PARTINGS:
                    with self.subTest(word, function=function.__name__, other=parting):
                        with self.assertRaises(NoParting):
                            function(thing, parting)

    def test_the_second_of_two(self):
        for function in OF_TWO:
            for word, thing in no_partings():
                for parting in PARTINGS:
                    with self.subTest(word, function=function.__name__, one=parting):
                        with self.assertRaises(NoParting):
                            function(parting, thing)

    def test_both_of_two(self):
        for function in OF_TWO:
            for word, thing in no_partings():
                with self.subTest(word, function=function.__name__):
                    for other in ([1, 2], None, "21", [0], [201], thing):
                        with self.assertRaises(NoParting):
                            function(thing, other)

    def test_of_the_same_whole(self):
        for function in OF_TWO:
            for thing, parting in (([1, 2], [3]), ([3, 0], [3]), ([2, True], [3]), ([3, 1, -1], [3]), ((3,), [3])):
                with self.subTest(function=function.__name__, thing=thing):
                    with self.assertRaises(NoParting):
                        function(thing, parting)
                    with self.assertRaises(NoParting):
                        function(parting, thing)

    def test_let_down_at_good_places(self):
        for word, thing in no_partings():
            for first, second in ((0, 1), (0, 2), (1, 2)):
                with self.subTest(word, first=first, second=second):
                    with self.assertRaises(NoParting):
                        let_down(thing, first, second)

    def test_let_down_at_places_that_are_none(self):
        for word, thing in no_partings():
            for first, second in ((0, 0), (1, 0), (-1, 0), (0, -1), (-2, -1), (0, 999), (999, 1000)):
                with self.subTest(word, first=first, second=second):
                    with self.assertRaises(NoParting):
                        let_down(thing, first, second)

    def test_let_down_at_what_is_no_number(self):
        for word, thing in no_partings():
            for place_word, place in NO_NUMBERS:
                with self.subTest(word, place=place_word):
                    for first, second in ((place, 1), (0, place), (place, place)):
                        with self.assertRaises(NoParting):
                            let_down(thing, first, second)

    def test_what_would_be_a_parting_with_the_box_let_down(self):
        for thing, first, second in (([3, 1, 2], 0, 1), ([201], 0, 1), ([2, 0], 0, 1), ([3, 1, 0], 0, 2)):
            with self.subTest(thing=thing):
                with self.assertRaises(NoParting):
                    let_down(thing, first, second)

    def test_partings_are_not_refused_so(self):
        for function in OF_TWO:
            for one in PARTINGS:
                for other in PARTINGS:
                    with self.subTest(function=function.__name__, one=one, other=other):
                        if sum(one) == sum(other):
                            function(one, other)
                        else:
                            with self.assertRaises(NoFit):
                                function(one, other)

    def test_put_square_of_what_is_none_beside_or_beneath(self):
        for word, thing in no_partings():
            for parting in PARTINGS:
                for number in (0, 1, 2, 3, 14, 15, 201, 10 ** 100):
                    with self.subTest(word, parting=parting, number=number):
                        for beside, beneath in ((thing, parting), (parting, thing), (thing, thing)):
                            with self.assertRaises(NoParting):
                                put_square(beside, beneath, number)

    def test_put_square_of_what_is_none_and_no_number(self):
        for word, thing in no_partings():
            for number_word, number in NO_COUNTS:
                with self.subTest(word, number=number_word):
                    for beside, beneath in ((thing, [1]), ([1], thing), (thing, thing), (thing, [200]), ([200], thing)):
                        with self.assertRaises(NoParting):
                            put_square(beside, beneath, number)


class NoNumberTest(unittest.TestCase):
    def refused(self, function, *arguments):
        with self.assertRaises(NoNumber) as caught:
            function(*arguments)
        self.assertIs(type(caught.exception), NoNumber)
        self.assertIsInstance(caught.exception, PartError)
        self.assertIsInstance(caught.exception, ValueError)

    def test_how_many_of_a_whole_that_is_none(self):
        for word, whole in NO_WHOLES:
            with self.subTest(word):
                self.refused(how_many, whole)
                for most in (None, 0, 1, 200, 10 ** 5000):
                    self.refused(how_many, whole, most)

    def test_how_many_with_a_most_that_is_none(self):
        for word, most in NO_COUNTS:
            if most is not None:
                for whole in (0, 1, 5, 200):
                    with self.subTest(word, whole=whole):
                        self.refused(how_many, whole, most)

    def test_how_many_of_two_that_are_none(self):
        for whole_word, whole in NO_WHOLES:
            for word, most in NO_COUNTS:
                with self.subTest(word, whole=whole_word):
                    self.refused(how_many, whole, most)

    def test_parting_of_a_whole_that_is_none(self):
        for word, whole in NO_WHOLES:
            for number in (0, 1, 10 ** 5000):
                with self.subTest(word):
                    self.refused(parting_of, whole, number)

    def test_parting_of_a_number_that_is_none(self):
        for word, number in NO_COUNTS:
            for whole in (0, 1, 5, 200):
                with self.subTest(word, whole=whole):
                    self.refused(parting_of, whole, number)

    def test_parting_of_two_that_are_none(self):
        for whole_word, whole in NO_WHOLES:
            for word, number in NO_COUNTS:
                with self.subTest(word, whole=whole_word):
                    self.refused(parting_of, whole, number)

    def test_put_square_of_a_number_that_is_none(self):
        for word, number in NO_COUNTS:
            # The last ones would not fit any number, but that is looked at behind the number.
            for beside, beneath in (([], []), ([2, 1], [1]), ([200], [200]), ([1] * 200, [1])):
                with self.subTest(word, beside=beside, beneath=beneath):
                    self.refused(put_square, beside, beneath, number)

    def test_each_of_its_own_name(self):
        for error, function, arguments in (
            (NoParting, unlike_of, [[0]]),
            (NoParting, odd_of, [[0]]),
            (NoParting, bends_of, [[0]]),
            (NoParting, unbent, [[0]]),
            (NoParting, square_of, [[0]]),
            (NoParting, cut_square, [[0]]),
            (NoParting, put_square, [[0], [], 0]),
            (NoParting, put_square, [[], [0], 0]),
            (NoParting, number_of, [[0]]),
            (NoFit, unlike_of, [[2]]),
            (NoFit, odd_of, [[1, 1]]),
            (NoFit, bends_of, [[2]]),
            (NoFit, unbent, [[2]]),
            (NoFit, put_square, [[1], [], 0]),
            (NoFit, put_square, [[], [1], 0]),
            (NoFit, put_square, [[], [], 15]),
        ):
            with self.subTest(function=function.__name__, arguments=arguments):
                with self.assertRaises(error) as caught:
                    function(*arguments)
                self.assertIs(type(caught.exception), error)
                self.assertIsInstance(caught.exception, PartError)
                self.assertIsInstance(caught.exception, ValueError)


if __name__ == "__main__":
    unittest.main()
