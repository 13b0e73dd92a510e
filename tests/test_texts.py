"""Point [29]: texts of fractions, turns and forces."""

import inspect
import random
import unittest

import drawing
import right
from pawlhall import texts
from pawlhall.errors import NoForces, NoFraction, NoText, NoTurns
from pawlhall.halls import Hall
from pawlhall.loads import verdict
from pawlhall.parts import Brake
from pawlhall.texts import (
    forces_text, fraction_text, read_forces, read_fraction, read_turns, turns_text,
)

FRACTIONS = [
    ((0, 1), "0"),
    ((1, 1), "1"),
    ((-1, 1), "-1"),
    ((7, 1), "7"),
    ((10, 1), "10"),
    ((-100, 1), "-100"),
    ((1, 2), "1/2"),
    ((-2, 3), "-2/3"),
    ((12, 35), "12/35"),
    ((10, 101), "10/101"),
    ((999999999999, 1), "999999999999"),
    ((-999999999999, 999999999998), "-999999999999/999999999998"),
    ((10**999, 1), "1" + "0" * 999),
    ((-1, 10**499), "-1/1" + "0" * 499),
]

NO_FRACTION_TEXTS = [
    "", " ", "-", "+", "/", "--", "-/", "/2", "1/", "-/2", "+1", "+1/2", "1/+2", "1/-2", "-1/-2",
    "--1", "1-", "- 1", " 1", "1 ", "1 /2", "1/ 2", " 1/2", "1/2 ", "01", "00", "-01", "-0", "-00",
    "0/1", "-0/1", "0/2", "1/1", "-1/1", "2/1", "1/0", "0/0", "2/4", "-2/4", "3/3", "4/2", "1/02",
    "01/2", "1/2/3", "1//2", "1.5", "1.0", ".5", "1e3", "1_0", "0x1", "a", "1a", "a=1", "(1, 2)",
    "1,2", "1\n", "\t1", "1/2\n", "one", "1 2", "1\\2", "=", "1=",
]

TURNS = [
    ({}, "-"),
    ({"a": (0, 1)}, "a=0"),
    ({"a": (1, 1), "b": (-2, 3)}, "a=1, b=-2/3"),
    ({"b": (-2, 3), "a": (1, 1)}, "b=-2/3, a=1"),
    ({"abcdefgh": (7, 2), "z": (0, 1), "zz": (-5, 1)}, "abcdefgh=7/2, z=0, zz=-5"),
]

NO_TURNS_TEXTS = [
    "", " ", "--", "- ", " -", "-, -", "a", "a=", "=1", "=", "a=1,", "a=1, ", ", a=1", "a=1,b=1",
    "a=1 , b=1", "a=1,  b=1", "a=1; b=1", "a=1 b=1", "a =1", "a= 1", " a=1", "a=1 ", "a=1\n",
    "a=1, a=2", "a=1, b=1, a=1", "a=1, -", "-, a=1", "A=1", "a1=1", "abcdefghi=1", "a b=1", "=1, a=1",
    "a==1", "a=1=2", "a=1=", "a=-", "a=+1", "a=01", "a=-0", "a=1/1", "a=2/4", "a=1/0", "a=1/2/3",
    "a:1", "a=b", "a=1.5", "a=1, b", "a=1, b=", "a=1, =2", "a=1, 2", "1", "1/2", "a=(1, 2)",
    "{'a': (1, 1)}", "a=1,\tb=2", "a=1, b=2,", "a-=1",
]

FORCES = [
    ([], "-"),
    ([(0, 1)], "0"),
    ([(-1, 1)], "-1"),
    ([(1, 2), (-2, 3), (0, 1), (1, 2)], "1/2 -2/3 0 1/2"),
]

NO_FORCES_TEXTS = [
    "", " ", "  ", "--", "- ", " -", "- -", "1 -", "- 1", "1  2", " 1", "1 ", "1, 2", "1,2", "1\t2",
    "1\n", "1 a", "a", "+1", "1 +2", "01", "1 02", "-0", "1 -0", "1/1", "1 2/4", "1/0", "1 /2",
    "1/ 2", "1 2/", "1.5", "a=1", "[1]", "1 2 3 4 -", "1;2", "1 2 1/2/3",
]

NO_FRACTIONS = [
    value for value in right.JUNK if not right.is_fraction(value)
] + [1, "1", [1, 2], (1, 0), (1, -1), (2, 4), (0, 2), (True, 1), (1, True), (1,), (1, 2, 3), ("1", "2"),
     Brake("a")]

NO_TURNS = [
    value for value in right.JUNK
    if not (isinstance(value, dict) and right.is_load(value, "a b zz".split()))
] + [
    {"a": 1}, {"a": (2, 4)}, {"a": (1, 1), "b": None}, {"A": (1, 1)}, {"": (1, 1)}, {"a b": (1, 1)},
    {"abcdefghi": (1, 1)}, {1: (1, 1)}, {"a": (1, 1), None: (1, 1)}, {("a",): (1, 1)}, {"a": [1, 1]},
    {"a": (True, 1)}, [("a", (1, 1))], "a=1", Brake("a"), {"a1": (1, 1)},
]

NO_FORCES = [
    value for value in right.JUNK
    if not (isinstance(value, list) and all(right.is_fraction(one) for one in value))
] + [
    [1], ["1"], [(2, 4)], [(1, 1), None], [(1, 1), (1, 0)], ((1, 1),), {}, "1", [[1, 1]], [(True, 1)],
    Brake("a"), [(1, 1), [(1, 1)]],
]


class TextsCase(unittest.TestCase):
    def assert_refused(self, function, error, name, values):
        for value in values:
            with self.assertRaises(error, msg=repr(value)) as caught:
                function(value)
            self.assertIs(getattr(caught.exception, name), value)

    def assert_read(self, function, written, value, text):
        told = function(text)
        self.assertEqual(told, value)
        self.assertIs(type(told), type(value))
        self.assertTrue(right.plain(told))
        if not isinstance(told, tuple):
            self.assertIsNot(function(text), told)
            told.clear()
            self.assertEqual(function(text), value)
        self.assertIs(type(written(value)), str)

    def no_strings(self):
        things = [value for value in right.JUNK if not isinstance(value, str)]
        return things + [Brake("a"), b"1", ["1"], ("-",), {"a": "1"}, 7]


class InterfaceTest(unittest.TestCase):
    def test_names_and_arguments(self):
        for function, told in (
            (fraction_text, "(value)"),
            (turns_text, "(turns)"),
            (forces_text, "(forces)"),
            (read_fraction, "(text)"),
            (read_turns, "(text)"),
            (read_forces, "(text)"),
        ):
            self.assertEqual(str(inspect.signature(function)), told)
            self.assertEqual(function.__module__, texts.__name__)

    def test_arguments_by_name(self):
        self.assertEqual(fraction_text(value=(1, 2)), "1/2")
        self.assertEqual(turns_text(turns={"a": (1, 2)}), "a=1/2")
        self.assertEqual(forces_text(forces=[(1, 2)]), "1/2")
        self.assertEqual(read_fraction(text="1/2"), (1, 2))
        self.assertEqual(read_turns(text="a=1/2"), {"a": (1, 2)})
        self.assertEqual(read_forces(text="1/2"), [(1, 2)])


class FractionTest(TextsCase):
    def test_texts(self):
        for value, text in FRACTIONS:
            self.assertEqual(fraction_text(value), text)
            self.assert_read(read_fraction, fraction_text, value, text)

    def test_drawn(self):
        for seed in range(300):
            draw = random.Random(seed)
            value = right.written(drawing.fraction(draw, -30, 30, 12))
            self.assertEqual(read_fraction(fraction_text(value)), value)

    def test_just_these_texts(self):
        # Of all short texts of these characters, those read that are written, and no others.
        letters, written = "-+/0123 ", set()
        for top in range(-333, 334):
            for bottom in range(1, 34):
                value = right.written(right.Fraction(top, bottom))
                written.add(fraction_text(value))
        for one in letters:
            for two in letters:
                for three in letters:
                    for text in {one, one + two, one + two + three}:
                        if text in written:
                            self.assertEqual(fraction_text(read_fraction(text)), text)
                        else:
                            self.assert_refused(read_fraction, NoText, "value", [text])

    def test_refused(self):
        self.assert_refused(fraction_text, NoFraction, "value", NO_FRACTIONS)
        self.assert_refused(read_fraction, NoText, "value", NO_FRACTION_TEXTS + self.no_strings())


class TurnsTest(TextsCase):
    def test_texts(self):
        for value, text in TURNS:
            before = list(value.items())
            self.assertEqual(turns_text(value), text)
            self.assertEqual(list(value.items()), before)
            self.assert_read(read_turns, turns_text, value, text)
            self.assertEqual(list(read_turns(text)), list(value))

    def test_in_any_order(self):
        turns = {"c": (1, 1), "a": (-1, 2), "b": (0, 1)}
        self.assertEqual(turns_text(turns), "c=1, a=-1/2, b=0")
        self.assertEqual(turns_text(dict(reversed(turns.items()))), "b=0, a=-1/2, c=1")
        self.assertEqual(list(read_turns("b=0, c=1, a=-1/2")), ["b", "c", "a"])

    def test_answers_of_halls(self):
        for seed in range(60):
            draw = random.Random(seed)
            hall = drawing.any_hall(draw)
            load = drawing.load(draw, hall)
            self.assertEqual(read_turns(turns_text(load)), load)
            word, told = verdict(hall, load)
            if word == "drops":
                self.assertEqual(read_turns(turns_text(told)), told)
                self.assertEqual(list(read_turns(turns_text(told))), list(hall.wheels))
            else:
                self.assertEqual(read_forces(forces_text(told)), told)

    def test_refused(self):
        self.assert_refused(turns_text, NoTurns, "turns", NO_TURNS)
        self.assert_refused(read_turns, NoText, "value", NO_TURNS_TEXTS + self.no_strings())


class ForcesTest(TextsCase):
    def test_texts(self):
        for value, text in FORCES:
            before = list(value)
            self.assertEqual(forces_text(value), text)
            self.assertEqual(value, before)
            self.assert_read(read_forces, forces_text, value, text)

    def test_of_a_hall(self):
        hall = Hall.read("wheels a; ratchet a; brake a")
        word, forces = verdict(hall, {"a": (-1, 2)})
        self.assertEqual((word, read_forces(forces_text(forces))), ("holds", forces))
        self.assertEqual(forces_text(verdict(Hall("a"), {})[1]), "-")

    def test_refused(self):
        self.assert_refused(forces_text, NoForces, "forces", NO_FORCES)
        self.assert_refused(read_forces, NoText, "value", NO_FORCES_TEXTS + self.no_strings())


if __name__ == "__main__":
    unittest.main()
