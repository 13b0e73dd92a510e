"""Points [9] and [11], motions and work, and what point [2] says of them."""

import inspect
import random
import unittest
from fractions import Fraction

import drawing
import right
from pawlhall import motions
from pawlhall.errors import NoTurns
from pawlhall.halls import Hall
from pawlhall.motions import broken, home_after, work
from pawlhall.parts import Brake
from right import JUNK, plain

GREAT = 10**999 + 7

# For each hall: turns, and the number of the first part against them.
BROKEN = [
    ("wheels", {}, None),
    ("wheels a", {"a": (1, 3)}, None),
    ("wheels a; brake a", {"a": (0, 1)}, None),
    ("wheels a; brake a", {"a": (1, 3)}, 0),
    ("wheels a; brake a", {"a": (-1, 3)}, 0),
    ("wheels a; ratchet a", {"a": (1, 3)}, None),
    ("wheels a; ratchet a", {"a": (0, 1)}, None),
    ("wheels a; ratchet a", {"a": (-1, 999999)}, 0),
    ("wheels a; ratchet a backward", {"a": (-1, 3)}, None),
    ("wheels a; ratchet a backward", {"a": (1, 3)}, 0),
    ("wheels a; ratchet a; ratchet a backward", {"a": (1, 3)}, 1),
    ("wheels a; ratchet a; ratchet a backward", {"a": (-1, 3)}, 0),
    ("wheels a b; mesh a b 1 2", {"a": (1, 1), "b": (-1, 2)}, None),
    ("wheels a b; mesh a b 1 2", {"a": (1, 1), "b": (1, 2)}, 0),
    ("wheels a b; mesh a b 1 2", {"a": (1, 2), "b": (-1, 1)}, 0),
    ("wheels a b; chain a b 2 3", {"a": (3, 7), "b": (2, 7)}, None),
    ("wheels a b; chain a b 2 3", {"a": (3, 7), "b": (-2, 7)}, 0),
    ("wheels a b; chain a b 2 3", {"a": (2, 7), "b": (3, 7)}, 0),
    ("wheels a b c; differential a b c 1 2", {"a": (1, 1), "b": (1, 2), "c": (2, 3)}, None),
    ("wheels a b c; differential a b c 1 2", {"a": (1, 1), "b": (1, 2), "c": (2, 1)}, 0),
    ("wheels a b; freewheel a b", {"a": (1, 2), "b": (1, 3)}, None),
    ("wheels a b; freewheel a b", {"a": (1, 3), "b": (1, 3)}, None),
    ("wheels a b; freewheel a b", {"a": (1, 3), "b": (1, 2)}, 0),
    ("wheels a b; freewheel a b", {"a": (-1, 2), "b": (-1, 3)}, 0),
    (
        "wheels a b; freewheel a b; chain a b 1 1; brake b; brake a",
        {"a": (1, 1), "b": (1, 1)},
        2,
    ),
    (
        "wheels a b; freewheel a b; brake b; chain a b 1 1; ratchet b; brake a",
        {"a": (1, 1), "b": (0, 1)},
        2,
    ),
    ("wheels a b; ratchet a; ratchet b; brake b", {"a": (1, 2), "b": (1, 2)}, 2),
    ("wheels a b; chain a b 1 1", {"a": (1, GREAT), "b": (1, GREAT)}, None),
    ("wheels a b; chain a b 1 1", {"a": (1, GREAT), "b": (1, GREAT + 1)}, 0),
    ("wheels a b; freewheel a b", {"a": (1, GREAT), "b": (1, GREAT + 1)}, None),
    ("wheels a b; freewheel b a", {"a": (1, GREAT), "b": (1, GREAT + 1)}, 0),
]

# Values that are no fraction.
NO_FRACTIONS = [
    None, True, False, 0, 1, -1, 1.0, "1", "1/2", "", (), (1,), (1, 1, 1), (2, 2), (0, 2), (0, 0),
    (1, 0), (1, -1), (-2, -1), (2, 4), (True, 1), (1, True), (False, 1), ("1", 1), (1, None),
    ((1, 1), 1), [1, 1], [], {}, {1: 1}, Fraction(1, 2), Brake("a"),
]


class InterfaceTest(unittest.TestCase):
    def test_names_and_arguments(self):
        for function, told in (
            (broken, "(hall, turns)"),
            (home_after, "(turns)"),
            (work, "(load, turns)"),
        ):
            self.assertEqual(str(inspect.signature(function)), told)
            self.assertEqual(function.__module__, motions.__name__)
        self.assertIsNone(broken(hall=Hall(), turns={}))
        self.assertEqual(home_after(turns={"a": (1, 2)}), 2)
        self.assertEqual(work(load={}, turns={}), (0, 1))


class BrokenTest(unittest.TestCase):
    def test_the_first_part_that_is_not_satisfied(self):
        for text, turns, told in BROKEN:
            hall = Hall.read(text)
            self.assertEqual(broken(hall, turns), told, text)
            self.assertEqual(hall.text, text)
            self.assertTrue(plain(broken(hall, turns)))

    def test_keys_in_any_order(self):
        hall = Hall.read("wheels a b c; differential a b c 1 2; freewheel a b")
        turns = {"c": (2, 3), "b": (1, 2), "a": (1, 1)}
        self.assertIsNone(broken(hall, turns))
        self.assertEqual(list(turns), ["c", "b", "a"])
        self.assertEqual(broken(hall, {"b": (1, 1), "c": (2, 3), "a": (1, 2)}), 0)

    def test_no_turns(self):
        hall = Hall.read("wheels a b; brake a")
        good = {"a": (0, 1), "b": (1, 2)}
        self.assertIsNone(broken(hall, good))
        bad = JUNK + [
            {"a": (0, 1)},
            {"b": (0, 1)},
            {**good, "c": (0, 1)},
            {**good, "": (0, 1)},
            {**good, None: (0, 1)},
            {**good, True: (0, 1)},
            {**good, ("a", "b"): (0, 1)},
            {"a": (0, 1), "c": (1, 2)},
            {"a": (0, 1), 1: (1, 2)},
            {"A": (0, 1), "b": (1, 2)},
            list(good),
            list(good.items()),
            tuple(good.items()),
            "a b",
            Brake("a"),
        ]
        bad += [{**good, "a": value} for value in NO_FRACTIONS]
        bad += [{**good, "b": value} for value in NO_FRACTIONS]
        for turns in bad:
            with self.assertRaises(NoTurns) as caught:
                broken(hall, turns)
            self.assertIs(caught.exception.turns, turns)
        with self.assertRaises(NoTurns):
            broken(Hall(), {"a": (1, 1)})
        with self.assertRaises(NoTurns):
            broken(Hall("a"), {})

    def test_drawn(self):
        for seed in range(300):
            draw = random.Random(seed)
            hall = drawing.any_hall(draw)
            turns = {name: right.written(draw.randint(-1, 1)) for name in hall.wheels}
            against = [k for k, part in enumerate(hall.parts) if not right.satisfied(part, turns)]
            self.assertEqual(broken(hall, turns), against[0] if against else None, hall.text)


class HomeAfterTest(unittest.TestCase):
    def test_examples(self):
        for turns, told in (
            ({"a": (0, 1)}, 1),
            ({"a": (-7, 1)}, 1),
            ({"a": (7, 12)}, 12),
            ({"a": (-1, 2), "b": (1, 3)}, 6),
            ({"a": (1, 4), "b": (-1, 6)}, 12),
            ({"a": (1, 4), "b": (5, 2), "c": (3, 4)}, 4),
            ({"a": (0, 1), "b": (1, 5), "zz": (2, 1)}, 5),
        ):
            before = dict(turns)
            self.assertEqual(home_after(turns), told)
            self.assertIs(type(home_after(turns)), int)
            self.assertEqual(turns, before)

    def test_great_bottoms(self):
        two, three = 2**3000, 3**2000
        self.assertEqual(home_after({"a": (1, two), "b": (1, three)}), two * three)
        self.assertEqual(home_after({"a": (1, two), "b": (1, two // 2)}), two)
        self.assertEqual(home_after({"a": (1, 6 * two), "b": (-1, 9)}), 18 * two)

    def test_it_is_the_smallest(self):
        draw = random.Random(1)
        for _ in range(200):
            turns = {
                name: right.written(drawing.fraction(draw, -9, 9, 12)) for name in "abcd"
            }
            many = home_after(turns)
            self.assertEqual([many * top % bottom for top, bottom in turns.values()], [0] * 4)
            for prime in (2, 3, 5, 7, 11):
                if many % prime == 0:
                    fewer = many // prime
                    self.assertTrue(any(fewer * top % low for top, low in turns.values()))


class WorkTest(unittest.TestCase):
    def test_examples(self):
        for load, turns, told in (
            ({}, {}, (0, 1)),
            ({"a": (2, 3)}, {}, (0, 1)),
            ({}, {"a": (2, 3)}, (0, 1)),
            ({"a": (2, 3)}, {"b": (5, 7)}, (0, 1)),
            ({"a": (2, 3)}, {"a": (3, 2)}, (1, 1)),
            ({"a": (2, 3)}, {"a": (-1, 2)}, (-1, 3)),
            ({"a": (1, 2), "b": (1, 3)}, {"a": (1, 1), "b": (1, 1)}, (5, 6)),
            ({"a": (1, 2), "c": (9, 1)}, {"b": (7, 1), "a": (1, 1)}, (1, 2)),
            ({"b": (1, 2), "a": (2, 1)}, {"a": (1, 4), "b": (-1, 1)}, (0, 1)),
            ({"a": (1, GREAT)}, {"a": (GREAT, 1)}, (1, 1)),
        ):
            self.assertEqual(work(load, turns), told)
            self.assertEqual(work(turns, load), told)
            self.assertTrue(plain(work(load, turns)))

    def test_arguments_are_not_changed(self):
        load, turns = {"b": (1, 2), "a": (1, 1)}, {"a": (3, 1), "c": (1, 1)}
        work(load, turns)
        self.assertEqual((list(load), list(turns)), (["b", "a"], ["a", "c"]))
        self.assertEqual((load["b"], turns["c"]), ((1, 2), (1, 1)))

    def test_drawn(self):
        draw = random.Random(2)
        for _ in range(300):
            load, turns = (
                {
                    name: right.written(drawing.fraction(draw, -9, 9, 9))
                    for name in "abcdefgh"
                    if draw.random() < 0.7
                }
                for _ in range(2)
            )
            self.assertEqual(work(load, turns), right.written(right.work(load, turns)))


if __name__ == "__main__":
    unittest.main()
