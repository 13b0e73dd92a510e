"""Points [14] and [15]: state_of, ratio, freedom, idle and seen_from."""

import inspect
import random
import unittest
from fractions import Fraction

import drawing
import right
import spaces
from pawlhall import wheels
from pawlhall.errors import NoName, NoWheel, Twice
from pawlhall.halls import Hall
from pawlhall.motions import broken
from pawlhall.parts import Brake, Chain, Differential, Freewheel, Mesh, Part, Ratchet
from pawlhall.wheels import freedom, idle, ratio, seen_from, state_of

NO_WHEELS = [value for value in right.JUNK if value != "a"] + [
    "c", "A", "aa", "a ", Brake("a"), ["a"], {"a": (0, 1)}, ("a", "b"), True,
]

NO_NAMES = [
    None, True, False, 0, 1, "", "A", "aB", "a1", "a b", " a", "abcdefghi", (), ("o",), [], ["o"],
    {}, {"o": 1}, Brake("o"),
]

# For each text: the words of its wheels, the freedom, and the parts that are idle.
HALLS = [
    ("wheels", "", 0, []),
    ("wheels a", "free", 1, []),
    ("wheels a b", "free free", 2, []),
    ("wheels a; brake a", "locked", 0, []),
    ("wheels a; brake a; brake a", "locked", 0, [0, 1]),
    ("wheels a; ratchet a", "forward", 1, []),
    ("wheels a; ratchet a backward", "backward", 1, []),
    ("wheels a; ratchet a; ratchet a", "forward", 1, [0, 1]),
    ("wheels a; ratchet a; ratchet a backward", "locked", 0, []),
    ("wheels a; ratchet a; ratchet a backward; brake a", "locked", 0, [0, 1, 2]),
    ("wheels a; brake a; ratchet a", "locked", 0, [1]),
    ("wheels a b; mesh a b 2 3", "free free", 1, []),
    ("wheels a b; mesh a b 2 3; mesh b a 6 4", "free free", 1, [0, 1]),
    ("wheels a b; mesh a b 2 3; mesh b a 3 3", "locked locked", 0, []),
    ("wheels a b; mesh a b 2 3; ratchet a", "forward backward", 1, []),
    ("wheels a b; chain a b 2 3; ratchet a", "forward forward", 1, []),
    ("wheels a b; chain a b 2 3; ratchet a; ratchet b", "forward forward", 1, [1, 2]),
    ("wheels a b; mesh a b 2 3; ratchet a; ratchet b", "locked locked", 0, []),
    ("wheels a b; freewheel a b", "free free", 2, []),
    ("wheels a b; freewheel a b; freewheel b a", "free free", 1, []),
    ("wheels a b; freewheel a b; freewheel b a; chain a b 7 7", "free free", 1, [0, 1, 2]),
    ("wheels a b; freewheel a b; ratchet b", "forward forward", 2, []),
    ("wheels a b; freewheel a b; ratchet b; ratchet a", "forward forward", 2, [2]),
    ("wheels a b; freewheel a b; brake b; ratchet a", "forward locked", 1, [0, 2]),
    ("wheels a b; ratchet b; freewheel a b; ratchet a backward", "locked locked", 0, []),
    ("wheels a b c; differential a b c 1 1", "free free free", 2, []),
    ("wheels a b c; differential a b c 1 2; brake c", "free free locked", 1, []),
    ("wheels a b c; differential a b c 1 2; chain a b 1 1", "free free free", 1, []),
    (
        "wheels a b c; differential a b c 1 2; chain a b 1 1; chain b c 2 2; chain a c 3 3",
        "free free free", 1, [0, 1, 2, 3],
    ),
    (
        "wheels a b c; freewheel a b; freewheel b c; freewheel c a; chain a b 1 1",
        "free free free", 1, [0, 3],
    ),
    (
        "wheels a b c; freewheel a b; freewheel b c; freewheel a c; ratchet c; ratchet a backward",
        "locked locked locked", 0, [2],
    ),
]

RATIOS = [
    ("wheels a b; mesh a b 1 2", "a", "b", (-1, 2)),
    ("wheels a b; mesh a b 1 2", "b", "a", (-2, 1)),
    ("wheels a b; chain a b 4 6", "a", "b", (2, 3)),
    ("wheels a b; chain a b 4 6", "a", "a", (1, 1)),
    ("wheels a", "a", "a", (1, 1)),
    ("wheels a; ratchet a backward", "a", "a", (1, 1)),
    ("wheels a; brake a", "a", "a", None),
    ("wheels a b; brake a", "b", "a", (0, 1)),
    ("wheels a b; brake a", "a", "b", None),
    ("wheels a b; brake a; brake b", "a", "b", None),
    ("wheels a b", "a", "b", None),
    ("wheels a b; freewheel a b", "a", "b", None),
    ("wheels a b; freewheel b a", "a", "b", None),
    ("wheels a b; freewheel a b; freewheel b a", "a", "b", (1, 1)),
    ("wheels a b; ratchet a; ratchet b", "a", "b", None),
    ("wheels a b; ratchet a; ratchet a backward", "b", "a", (0, 1)),
    ("wheels a b; ratchet a; ratchet a backward", "a", "b", None),
    ("wheels a b; ratchet b backward; chain b a 3 7", "a", "b", (7, 3)),
    ("wheels a b c; differential a b c 1 2", "a", "c", None),
    ("wheels a b c; differential a b c 1 2; brake b", "a", "c", (1, 3)),
    ("wheels a b c; differential a b c 1 2; brake b", "c", "a", (3, 1)),
    ("wheels a b c; differential a b c 1 2; brake b", "c", "b", (0, 1)),
    ("wheels a b c; chain a b 2 1; chain b c 3 1", "a", "c", (6, 1)),
    (
        "wheels a b c; freewheel a b; freewheel b c; freewheel c a; ratchet c backward",
        "a", "b", (1, 1),
    ),
]


def turning(hall, wheel):
    """Whether the wheel turns forward in some motion, and whether it turns backward in some."""
    at = hall.wheels.index(wheel)
    lines, rays = spaces.of_hall(hall)
    free = any(line[at] for line in lines)
    return free or any(ray[at] > 0 for ray in rays), free or any(ray[at] < 0 for ray in rays)


def ratio_of(hall, wheel, other):
    lines, rays = spaces.of_hall(hall)
    one, two = hall.wheels.index(wheel), hall.wheels.index(other)
    found = {Fraction(way[two]) / way[one] for way in lines + rays if way[one]}
    still = any(way[two] for way in lines + rays if not way[one])
    return right.written(*found) if len(found) == 1 and not still else None


def same_motions(one, other):
    """Whether two halls with the same wheels have the same motions."""
    for hall, judge in ((one, other), (other, one)):
        lines, rays = spaces.of_hall(hall)
        ties, pawls = spaces.rows_of(judge.parts, judge.wheels)
        for way in lines + [[-turn for turn in line] for line in lines] + rays:
            if any(spaces.dot(tie, way) for tie in ties):
                return False
            if any(spaces.dot(pawl, way) < 0 for pawl in pawls):
                return False
    return True


def without(hall, number):
    other = Hall.read(hall.text)
    other.take(number)
    return other


class WheelsCase(unittest.TestCase):
    def assert_no_wheel(self, function, *calls):
        hall = Hall.read("wheels a b; chain a b 1 2")
        for value in NO_WHEELS:
            for call in calls:
                with self.assertRaises(NoWheel) as caught:
                    function(hall, *call(value))
                self.assertIs(caught.exception.name, value)
        self.assertEqual(hall.text, "wheels a b; chain a b 1 2")


class InterfaceTest(unittest.TestCase):
    def test_names_and_arguments(self):
        for function, told in (
            (state_of, "(hall, wheel)"),
            (ratio, "(hall, wheel, other)"),
            (freedom, "(hall)"),
            (idle, "(hall)"),
            (seen_from, "(hall, wheel, floor)"),
        ):
            self.assertEqual(str(inspect.signature(function)), told)
            self.assertEqual(function.__module__, wheels.__name__)

    def test_arguments_by_name(self):
        hall = Hall.read("wheels a b; chain a b 1 2; ratchet a")
        self.assertEqual(state_of(wheel="a", hall=hall), "forward")
        self.assertEqual(ratio(other="b", wheel="a", hall=hall), (1, 2))
        self.assertEqual(freedom(hall=hall), 1)
        self.assertEqual(idle(hall=hall), [])
        self.assertEqual(seen_from(floor="o", wheel="b", hall=hall).wheels, ("a", "b", "o"))


class StateTest(WheelsCase):
    def test_examples(self):
        for text, words, _, _ in HALLS:
            hall = Hall.read(text)
            told = [state_of(hall, name) for name in hall.wheels]
            self.assertEqual(told, words.split(), text)
            self.assertTrue(right.plain(told))
            self.assertEqual(hall.text, text)

    def test_drawn(self):
        words = {(True, True): "free", (True, False): "forward", (False, True): "backward"}
        seen = []
        for seed in range(120):
            hall = drawing.any_hall(random.Random(seed))
            for name in hall.wheels:
                word = words.get(turning(hall, name), "locked")
                self.assertEqual(state_of(hall, name), word, (hall.text, name))
                seen.append(word)
        for word in ("free", "forward", "backward", "locked"):
            self.assertGreater(seen.count(word), 25, word)

    def test_no_wheel(self):
        self.assert_no_wheel(state_of, lambda value: [value])
        with self.assertRaises(NoWheel):
            state_of(Hall(), "a")


class RatioTest(WheelsCase):
    def test_examples(self):
        for text, wheel, other, value in RATIOS:
            hall = Hall.read(text)
            told = ratio(hall, wheel, other)
            self.assertEqual(told, value, (text, wheel, other))
            self.assertTrue(told is None or type(told) is tuple)
            self.assertEqual(hall.text, text)

    def test_drawn(self):
        many = {"none": 0, "zero": 0, "other": 0}
        for seed in range(150):
            draw = random.Random(seed)
            hall = drawing.any_hall(draw)
            for _ in range(4):
                wheel, other = draw.choice(hall.wheels), draw.choice(hall.wheels)
                value = ratio_of(hall, wheel, other)
                self.assertEqual(ratio(hall, wheel, other), value, (hall.text, wheel, other))
                many["none" if value is None else "other" if value[0] else "zero"] += 1
        self.assertGreater(min(many.values()), 20, many)

    def test_great_teeth(self):
        hall = Hall("a", "b", "c")
        hall.put(Mesh("a", "b", 10**999 + 1, 10**999))
        hall.put(Mesh("b", "c", 999999, 7))
        self.assertEqual(ratio(hall, "a", "b"), (-(10**999) - 1, 10**999))
        self.assertEqual(ratio(hall, "a", "c"), right.written(
            Fraction(10**999 + 1, 10**999) * Fraction(999999, 7)
        ))

    def test_no_wheel(self):
        self.assert_no_wheel(
            ratio, lambda value: [value, "a"], lambda value: ["a", value], lambda value: [value, 0]
        )


class FreedomTest(unittest.TestCase):
    def test_examples(self):
        for text, _, many, _ in HALLS:
            hall = Hall.read(text)
            self.assertEqual(freedom(hall), many, text)
            self.assertIs(type(freedom(hall)), int)
            self.assertEqual(hall.text, text)

    def test_drawn(self):
        for seed in range(200):
            hall = drawing.any_hall(random.Random(seed))
            lines, rays = spaces.of_hall(hall)
            self.assertEqual(freedom(hall), spaces.rank(lines + rays, len(hall.wheels)), hall.text)


class IdleTest(unittest.TestCase):
    def test_examples(self):
        for text, _, _, numbers in HALLS:
            hall = Hall.read(text)
            told = idle(hall)
            self.assertEqual(told, numbers, text)
            told.append("mine")
            self.assertEqual(idle(hall), numbers, text)
            self.assertEqual(hall.text, text)

    def test_drawn(self):
        many = 0
        for seed in range(200):
            draw = random.Random(seed)
            hall = drawing.hall(draw, draw.randint(1, 4), draw.randint(0, 3), draw.randint(0, 4))
            expected = [
                number for number in range(len(hall)) if same_motions(hall, without(hall, number))
            ]
            self.assertEqual(idle(hall), expected, hall.text)
            many += len(expected)
        self.assertGreater(many, 100)

    def test_a_doubled_part(self):
        for seed in range(60):
            draw = random.Random(seed)
            hall = drawing.any_hall(draw)
            if not len(hall):
                continue
            number = draw.randrange(len(hall))
            hall.put(Part.read(hall.parts[number].text))
            self.assertLessEqual({number, len(hall) - 1}, set(idle(hall)))


class SeenFromTest(WheelsCase):
    def test_each_part_from_each_wheel(self):
        parts = [
            Brake("a"), Ratchet("a"), Ratchet("a", backward=True), Freewheel("a", "b"),
            Mesh("a", "b"), Mesh("a", "b", 2, 3), Chain("a", "b"), Chain("a", "b", 4, 4),
            Chain("a", "b", 2, 3), Chain("a", "b", 3, 2), Chain("b", "a", 1, 999999),
            Differential("a", "b", "c"), Differential("c", "a", "b", 2, 5),
        ]
        for part in parts:
            for wheel in "abcd":
                hall = Hall("a", "b", "c", "d")
                hall.put(part)
                self.assert_seen(hall, wheel, "o")

    def test_all_kinds_of_parts_can_come_out(self):
        text = (
            "wheels a b c; mesh a b 2 3; chain a b 3 2; chain a b 2 3; chain b c 5 5; brake c;"
            " differential a b c 1 2; ratchet a; ratchet a backward; freewheel c a"
        )
        seen = seen_from(Hall.read(text), "b", "o")
        self.assert_seen(Hall.read(text), "b", "o")
        kinds = [part.text.split(" ")[0] for part in seen.parts]
        self.assertEqual(
            [type(part) in (Mesh, Chain, Differential, Brake, Ratchet, Freewheel) for part in seen.parts],
            [True] * 10,
        )
        self.assertEqual(kinds[-1], "brake")
        self.assertEqual(seen.parts[-1], Brake("b"))

    def test_without_parts(self):
        self.assertEqual(seen_from(Hall("a"), "a", "o").text, "wheels a o; brake a")
        self.assertEqual(seen_from(Hall("b", "a"), "a", "wheels").text, "wheels b a wheels; brake a")

    def test_drawn(self):
        for seed in range(150):
            draw = random.Random(seed)
            hall = drawing.any_hall(draw)
            self.assert_seen(hall, draw.choice(hall.wheels), "floor")

    def test_seen_twice(self):
        for seed in range(40):
            draw = random.Random(seed)
            hall = drawing.hall(draw, draw.randint(2, 5), draw.randint(0, 4), draw.randint(0, 4))
            seen = seen_from(hall, draw.choice(hall.wheels), "floor")
            # From the floor the old wheels turn as they do, and so does the floor itself.
            back = seen_from(seen, "floor", "ground")
            self.assert_seen(seen, "floor", "ground")
            for name in hall.wheels:
                self.assertEqual(state_of(back, name), state_of(hall, name), hall.text)

    def assert_seen(self, hall, wheel, floor):
        text = hall.text
        seen = seen_from(hall, wheel, floor)
        self.assertIs(type(seen), Hall)
        self.assertEqual(seen.wheels, (*hall.wheels, floor))
        self.assertEqual(len(seen), len(hall) + 1)
        self.assertEqual(seen.parts[-1], Brake(wheel))
        self.assertEqual(hall.text, text)
        self.assertEqual(seen_from(Hall.read(text), wheel, floor), seen)
        self.assert_part_for_part(hall, seen, wheel, floor)
        # What the hall allows looks allowed, and what the seen hall allows is allowed.
        for turns in some_motions(hall):
            self.assertIsNone(broken(seen, as_seen(turns, wheel, floor)), (text, wheel, turns))
        for turns in some_motions(seen):
            self.assertEqual(turns[wheel], (0, 1))
            plain = as_was(turns, floor)
            self.assertIsNone(broken(hall, plain), (text, wheel, turns))
            self.assertEqual(as_seen(plain, wheel, floor), turns)

    def assert_part_for_part(self, hall, seen, wheel, floor):
        draw = random.Random(hall.text)
        for part, other in zip(hall.parts, seen.parts):
            self.assertEqual(part.is_pawl, other.is_pawl)
            turns = {name: drawing.fraction(draw, -3, 3, 2) for name in hall.wheels}
            turns = {name: right.written(value) for name, value in turns.items()}
            tight = dict(turns)
            # Once any turns, and once turns on which the sum of the part is 0.
            weight = part.weights[part.wheels[-1]]
            amount = right.number(turns[part.wheels[-1]]) - right.sum_on(part, turns) / weight
            tight[part.wheels[-1]] = right.written(amount)
            for one in (turns, tight):
                looks = as_seen(one, wheel, floor)
                self.assertEqual(
                    right.satisfied(part, one), right.satisfied(other, looks), (part.text, wheel)
                )

    def test_errors(self):
        self.assert_no_wheel(
            seen_from, lambda value: [value, "o"], lambda value: [value, 0], lambda value: [value, "a"]
        )
        hall = Hall.read("wheels a b; brake b")
        for value in NO_NAMES:
            with self.assertRaises(NoName) as caught:
                seen_from(hall, "a", value)
            self.assertIs(caught.exception.name, value)
        for name in "ab":
            with self.assertRaises(Twice) as caught:
                seen_from(hall, "a", name)
            self.assertEqual(caught.exception.name, name)
        self.assertEqual(hall.text, "wheels a b; brake b")


def some_motions(hall):
    """Motions that span all motions of the hall: lines in both directions, rays, their sum."""
    lines, rays = spaces.of_hall(hall)
    ways = lines + [[-turn for turn in line] for line in lines] + rays
    ways.append([sum(turns) for turns in zip(*ways)] or [0] * len(hall.wheels))
    return [
        {name: right.written(turn) for name, turn in zip(hall.wheels, way)} for way in ways
    ]


def as_seen(turns, wheel, floor):
    base = right.number(turns[wheel])
    seen = {name: right.written(right.number(turn) - base) for name, turn in turns.items()}
    return {**seen, floor: right.written(-base)}


def as_was(turns, floor):
    base = right.number(turns[floor])
    return {
        name: right.written(right.number(turn) - base)
        for name, turn in turns.items()
        if name != floor
    }


class BigTest(unittest.TestCase):
    def test_a_hundred_wheels_and_parts(self):
        draw = random.Random(3)
        hall = drawing.hall(draw, 100, 91, 9, teeth=30)
        seen = seen_from(hall, hall.wheels[7], "floor")
        self.assertEqual((len(seen.wheels), len(seen)), (101, 101))
        self.assertEqual(freedom(seen), freedom(hall))
        self.assertEqual(idle(seen), idle(hall))
        for name in hall.wheels[::9]:
            for other in hall.wheels[::11]:
                value = ratio(hall, name, other)
                if value is not None and state_of(hall, other) != "locked":
                    times = right.number(value)
                    self.assertEqual(ratio(hall, other, name), right.written(1 / times))

    def test_a_long_row_of_wheels(self):
        names = drawing.names(100)
        hall, times = Hall(*names), Fraction(1)
        for at, (one, other) in enumerate(zip(names, names[1:])):
            hall.put(Mesh(one, other, at + 1, at + 2))
            times *= -Fraction(at + 1, at + 2)
        self.assertEqual(ratio(hall, names[0], names[-1]), right.written(times))
        self.assertEqual((freedom(hall), idle(hall)), (1, []))
        hall.put(Chain(names[0], names[98], 1, 99))
        self.assertEqual((freedom(hall), idle(hall)), (1, [*range(98), 99]))
        hall.put(Ratchet(names[50]))
        self.assertEqual([state_of(hall, name) for name in names], ["forward", "backward"] * 50)
        hall.put(Brake(names[99]))
        self.assertEqual((freedom(hall), state_of(hall, names[0])), (0, "locked"))


if __name__ == "__main__":
    unittest.main()
