"""The interface: names, files, arguments, and the family of the errors."""

import inspect
import unittest

from stairparts import errors, order, partings

FUNCTIONS = [
    (partings, "is_parting", ["thing"]),
    (partings, "turned", ["parting"]),
    (order, "lies_above", ["one", "other"]),
    (order, "lacking_count", ["one", "other"]),
    (order, "let_down", ["parting", "first", "second"]),
    (order, "way_down", ["one", "other"]),
]


class FunctionsTest(unittest.TestCase):
    def test_each_is_defined_in_its_file(self):
        for module, name, _ in FUNCTIONS:
            with self.subTest(name=name):
                function = getattr(module, name)
                self.assertTrue(inspect.isfunction(function))
                self.assertEqual(function.__module__, module.__name__)
                self.assertEqual(function.__name__, name)

    def test_arguments(self):
        for module, name, arguments in FUNCTIONS:
            with self.subTest(name=name):
                parameters = inspect.signature(getattr(module, name)).parameters
                self.assertEqual(list(parameters), arguments)
                for parameter in parameters.values():
                    self.assertEqual(parameter.kind, inspect.Parameter.POSITIONAL_OR_KEYWORD)
                    self.assertIs(parameter.default, inspect.Parameter.empty)

    def test_arguments_by_name(self):
        self.assertIs(partings.is_parting(thing=[1]), True)
        self.assertEqual(partings.turned(parting=[2]), [1, 1])
        self.assertIs(order.lies_above(one=[2], other=[1, 1]), True)
        self.assertEqual(order.lacking_count(one=[1, 1], other=[2]), 1)
        self.assertEqual(order.let_down(parting=[2], first=0, second=1), [1, 1])
        self.assertEqual(order.way_down(one=[2], other=[1, 1]), [[2], [1, 1]])


class ErrorsTest(unittest.TestCase):
    def test_part_error_is_right_under_value_error(self):
        self.assertEqual(errors.PartError.__bases__, (ValueError,))
        self.assertEqual(errors.PartError.__module__, "stairparts.errors")

    def test_each_is_right_under_part_error(self):
        for name in ("NoParting", "NoFit", "NoNumber"):
            with self.subTest(name=name):
                error = getattr(errors, name)
                self.assertEqual(error.__bases__, (errors.PartError,))
                self.assertEqual(error.__module__, "stairparts.errors")
                self.assertEqual(error.__name__, name)

    def test_none_is_under_another(self):
        below = [errors.NoParting, errors.NoFit, errors.NoNumber]
        for one in below:
            for other in below:
                self.assertEqual(issubclass(one, other), one is other)

    def test_each_can_be_raised_and_caught_as_any_refusal(self):
        for error in (errors.PartError, errors.NoParting, errors.NoFit, errors.NoNumber):
            for caught in (errors.PartError, ValueError):
                with self.assertRaises(caught):
                    raise error("why")


if __name__ == "__main__":
    unittest.main()
