"""The interface: names, files, arguments, and the family of the errors."""

import inspect
import unittest

from stairparts import counting, errors, kinds, order, partings, squares

FUNCTIONS = [
    (partings, "is_parting", ["thing"]),
    (partings, "turned", ["parting"]),
    (order, "lies_above", ["one", "other"]),
    (order, "lacking_count", ["one", "other"]),
    (order, "let_down", ["parting", "first", "second"]),
    (order, "way_down", ["one", "other"]),
    (kinds, "unlike_of", ["parting"]),
    (kinds, "odd_of", ["parting"]),
    (kinds, "bends_of", ["parting"]),
    (kinds, "unbent", ["parting"]),
    (squares, "square_of", ["parting"]),
    (squares, "cut_square", ["parting"]),
    (squares, "put_square", ["beside", "beneath", "number"]),
    (counting, "how_many", ["whole", "most"]),
    (counting, "number_of", ["parting"]),
    (counting, "parting_of", ["whole", "number"]),
]

# The arguments that may be left out, and what they are then.
DEFAULTS = {("how_many", "most"): None}


class FunctionsTest(unittest.TestCase):
    def test_each_is_defined_in_its_file(self):
        for module, name, _ in FUNCTIONS:
            with self.subTest(name=name):
                function = getattr(module, name)
                self.assertTrue(inspect.isfunction(function))
                self.assertEqual(function.__module__, module.__name__)
                self.assertEqual(function.__name__, name)

    def test_arguments(self):
        for module, name, arguments in FUNCTIONS:
            with self.subTest(name=name):
                parameters = inspect.signature(getattr(module, name)).parameters
                self.assertEqual(list(parameters), arguments)
                for argument, parameter in parameters.items():
                    self.assertEqual(parameter.kind, inspect.Parameter.POSITIONAL_OR_KEYWORD)
                    self.assertIs(parameter.default, DEFAULTS.get((name, argument), inspect.Parameter.empty))

    def test_arguments_by_name(self):
        self.assertIs(partings.is_parting(thing=[1]), True)
        self.assertEqual(partings.turned(parting=[2]), [1, 1])
        self.assertIs(order.lies_above(one=[2], other=[1, 1]), True)
        self.assertEqual(order.lacking_count(one=[1, 1], other=[2]), 1)
        self.assertEqual(order.let_down(parting=[2], first=0, second=1), [1, 1])
        self.assertEqual(order.way_down(one=[2], other=[1, 1]), [[2], [1, 1]])
        self.assertEqual(kinds.unlike_of(parting=[1, 1]), [2])
        self.assertEqual(kinds.odd_of(parting=[2]), [1, 1])
        self.assertEqual(kinds.bends_of(parting=[2, 1]), [3])
        self.assertEqual(kinds.unbent(parting=[3]), [2, 1])
        self.assertEqual(squares.square_of(parting=[2, 1]), 1)
        self.assertEqual(squares.cut_square(parting=[2, 1]), (1, [1], [1]))
        self.assertEqual(squares.put_square(beside=[2], beneath=[1], number=1), [3, 1])
        self.assertEqual(counting.how_many(whole=4, most=2), 3)
        self.assertEqual(counting.number_of(parting=[2]), 1)
        self.assertEqual(counting.parting_of(whole=2, number=1), [2])


class ErrorsTest(unittest.TestCase):
    def test_part_error_is_right_under_value_error(self):
        self.assertEqual(errors.PartError.__bases__, (ValueError,))
        self.assertEqual(errors.PartError.__module__, "stairparts.errors")

    def test_each_is_right_under_part_error(self):
        for name in ("NoParting", "NoFit", "NoNumber"):
            with self.subTest(name=name):
                error = getattr(errors, name)
                self.assertEqual(error.__bases__, (errors.PartError,))
                self.assertEqual(error.__module__, "stairparts.errors")
                self.assertEqual(error.__name__, name)

    def test_none_is_under_another(self):
        below = [errors.NoParting, errors.NoFit, errors.NoNumber]
        for one in below:
            for other in below:
                self.assertEqual(issubclass(one, other), one is other)

    def test_each_can_be_raised_and_caught_as_any_refusal(self):
        for error in (errors.PartError, errors.NoParting, errors.NoFit, errors.NoNumber):
            for caught in (errors.PartError, ValueError):
                with self.assertRaises(caught):
                    raise error("why")


if __name__ == "__main__":
    unittest.main()
