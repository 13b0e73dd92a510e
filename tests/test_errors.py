"""Point [2] and the interface's entry pawlhall/errors.py."""

import inspect
import unittest

from pawlhall import errors
from pawlhall.parts import Brake

SHAPES = {
    "NoFraction": ("value",),
    "NoName": ("name",),
    "Twice": ("name",),
    "NoTeeth": ("value",),
    "NoPart": ("part",),
    "NoWheel": ("name",),
    "NoTurns": ("turns",),
    "NoLoad": ("load",),
    "NoWishes": ("wishes",),
    "NoForces": ("forces",),
    "NoLever": ("name",),
    "NoText": ("value",),
    "Stuck": ("load", "forces"),
    "Loose": ("names",),
    "NothingToUndo": (),
}

ANYTHING = [
    None,
    True,
    False,
    0,
    -7,
    10 ** 999,
    "",
    "abc",
    (),
    (2, 4),
    [],
    [1, [2]],
    {},
    {"a": (1, 2)},
    Brake("a"),
]


class ErrorsTest(unittest.TestCase):
    def test_there_are_exactly_these_errors(self):
        classes = {
            name
            for name, thing in vars(errors).items()
            if inspect.isclass(thing) and thing.__module__ == "pawlhall.errors"
        }
        self.assertEqual(classes, set(SHAPES) | {"HallError"})

    def test_base_classes(self):
        self.assertEqual(errors.HallError.__bases__, (ValueError,))
        for name in SHAPES:
            self.assertEqual(getattr(errors, name).__bases__, (errors.HallError,), name)

    def test_none_of_the_fifteen_is_below_another(self):
        for name in SHAPES:
            for other in SHAPES:
                if name != other:
                    self.assertFalse(issubclass(getattr(errors, name), getattr(errors, other)))

    def test_values_by_position(self):
        for name, attributes in SHAPES.items():
            for value in ANYTHING:
                error = getattr(errors, name)(*[value] * len(attributes))
                self.assert_holds(error, {key: value for key in attributes})

    def test_values_by_name(self):
        for name, attributes in SHAPES.items():
            for value in ANYTHING:
                error = getattr(errors, name)(**{key: value for key in attributes})
                self.assert_holds(error, {key: value for key in attributes})

    def test_the_two_values_of_stuck_are_not_exchanged(self):
        load, forces = {"a": (1, 1)}, [(1, 2)]
        self.assert_holds(errors.Stuck(load, forces), {"load": load, "forces": forces})
        self.assert_holds(errors.Stuck(forces=forces, load=load), {"load": load, "forces": forces})

    def test_errors_are_raised_and_caught_as_their_bases(self):
        for name, attributes in SHAPES.items():
            with self.assertRaises(errors.HallError):
                raise getattr(errors, name)(*attributes)
            with self.assertRaises(ValueError):
                raise getattr(errors, name)(*attributes)

    def assert_holds(self, error, attributes):
        self.assertEqual(list(vars(error)), list(attributes))
        for key, value in attributes.items():
            self.assertIs(getattr(error, key), value)


if __name__ == "__main__":
    unittest.main()
