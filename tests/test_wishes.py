"""Points [21] and [22]: driven, most, settled, and the judges drives and most_shown."""

import inspect
import random
import unittest
from fractions import Fraction

import drawing
import right
from pawlhall import wishes as wishes_file
from pawlhall.errors import NoWheel, NoWishes
from pawlhall.forms import Form, built
from pawlhall.halls import Hall
from pawlhall.loads import verdict
from pawlhall.motions import broken
from pawlhall.parts import Brake, Mesh, Ratchet
from pawlhall.wishes import driven, drives, most, most_shown, settled

ONE, TWO, HALF, ZERO, LESS = (1, 1), (2, 1), (1, 2), (0, 1), (-1, 1)

# For each hall and wishes: whether they are granted, and what is settled then.
DRIVEN = [
    ("wheels", {}, {}),
    ("wheels a", {}, {}),
    ("wheels a; brake a", {}, {"a": ZERO}),
    ("wheels a; brake a", {"a": ZERO}, {"a": ZERO}),
    ("wheels a; brake a", {"a": ONE}, None),
    ("wheels a", {"a": (-7, 3)}, {"a": (-7, 3)}),
    ("wheels a; ratchet a", {"a": ONE}, {"a": ONE}),
    ("wheels a; ratchet a", {"a": ZERO}, {"a": ZERO}),
    ("wheels a; ratchet a", {"a": LESS}, None),
    ("wheels a; ratchet a", {}, {}),
    ("wheels a; ratchet a; ratchet a backward", {}, {"a": ZERO}),
    ("wheels a b; mesh a b 1 2", {"a": ONE}, {"a": ONE, "b": (-1, 2)}),
    ("wheels a b; mesh a b 1 2", {"b": ONE}, {"a": (-2, 1), "b": ONE}),
    ("wheels a b; mesh a b 1 2", {"b": ONE, "a": (-2, 1)}, {"a": (-2, 1), "b": ONE}),
    ("wheels a b; mesh a b 1 2", {"b": ONE, "a": TWO}, None),
    ("wheels a b c; chain a b 1 1", {"a": TWO}, {"a": TWO, "b": TWO}),
    ("wheels b a; freewheel a b", {"a": ONE}, {"a": ONE}),
    ("wheels b a; freewheel a b", {"a": ONE, "b": ONE}, {"b": ONE, "a": ONE}),
    ("wheels b a; freewheel a b", {"a": ONE, "b": TWO}, None),
    ("wheels a b; freewheel a b; ratchet b", {"a": ZERO}, {"a": ZERO, "b": ZERO}),
    ("wheels a b; freewheel a b; ratchet b", {"a": LESS}, None),
    ("wheels a b; freewheel a b; ratchet b", {"a": ONE}, {"a": ONE}),
    (
        "wheels a b c; freewheel a b; freewheel b c",
        {"a": HALF, "c": HALF},
        {"a": HALF, "b": HALF, "c": HALF},
    ),
    ("wheels a b c; freewheel a b; freewheel b c", {"a": HALF, "c": ONE}, None),
    ("wheels a b c; differential a b c 2 3", {"a": ONE, "b": TWO}, {"a": ONE, "b": TWO, "c": (8, 5)}),
    ("wheels a b c; differential a b c 2 3", {"c": ONE}, {"c": ONE}),
    ("wheels a b c; differential a b c 2 3; brake b", {"c": ONE}, {"a": (5, 2), "b": ZERO, "c": ONE}),
    (
        "wheels a b c d; differential a b c 2 3; freewheel a d; freewheel b d; ratchet d",
        {"c": ZERO},
        {"a": ZERO, "b": ZERO, "c": ZERO, "d": ZERO},
    ),
]

# For each hall, wishes, wheel and direction: the value, or a word.
MOST = [
    ("wheels a", {}, "a", False, "endless"),
    ("wheels a", {"a": TWO}, "a", False, TWO),
    ("wheels a", {"a": TWO}, "a", True, (-2, 1)),
    ("wheels a; brake a", {}, "a", False, ZERO),
    ("wheels a; brake a", {}, "a", True, ZERO),
    ("wheels a; brake a", {"a": TWO}, "a", True, "stuck"),
    ("wheels a; ratchet a", {}, "a", False, "endless"),
    ("wheels a; ratchet a", {}, "a", True, ZERO),
    ("wheels a; ratchet a backward", {}, "a", False, ZERO),
    ("wheels a; ratchet a backward", {}, "a", True, "endless"),
    ("wheels a b; mesh a b 1 2", {"a": ONE}, "b", False, (-1, 2)),
    ("wheels a b; mesh a b 1 2", {"a": ONE}, "b", True, HALF),
    ("wheels a b; mesh a b 1 2", {"a": ONE, "b": ONE}, "b", False, "stuck"),
    ("wheels a b; freewheel a b", {"a": ONE}, "b", False, ONE),
    ("wheels a b; freewheel a b", {"a": ONE}, "b", True, "endless"),
    ("wheels a b; freewheel a b", {"b": ONE}, "a", False, "endless"),
    ("wheels a b; freewheel a b", {"b": ONE}, "a", True, LESS),
    ("wheels a b c; freewheel a b", {"a": ONE}, "c", True, "endless"),
    ("wheels a b c; freewheel a b; freewheel c b", {"a": ONE, "c": HALF}, "b", False, HALF),
    ("wheels a b c; freewheel a b; freewheel c b; ratchet b", {"a": ONE, "c": HALF}, "b", True, ZERO),
    (
        # b lies between the half of a less c, and the third of a.
        "wheels a b c d e f; ratchet b; chain a d 1 2; chain a e 1 3; differential f c d 1 1;"
        " freewheel b f; freewheel e b",
        {"a": (6, 1), "c": (5, 1)},
        "b",
        False,
        TWO,
    ),
]


def no_wishes(hall):
    """Values that are no wishes of the hall."""
    wrong = [value for value in right.JUNK if not right.is_load(value, hall.wheels)]
    return wrong + [
        {"c": ONE}, {"a": ONE, "c": ZERO}, {"a": 1}, {"a": (1, 0)}, {"a": (1, -1)}, {"a": (2, 2)},
        {"a": [1, 1]}, {"a": (True, 1)}, {"a": (1, True)}, {"a": (0, 2)}, {"a": None}, {"": ONE},
        {1: ONE}, {("a",): ONE}, {"a": ONE, None: ONE}, [("a", ONE)], Brake("a"), "a", {"A": ONE},
        {"1": ONE}, {"a": (1, 1, 1)}, {"a": (1,)}, {"a": "1"},
    ]


class WishesCase(unittest.TestCase):
    def assert_no_wishes(self, function, *rest):
        hall = Hall.read("wheels a b; ratchet a")
        for wishes in no_wishes(hall):
            with self.assertRaises(NoWishes) as caught:
                function(hall, wishes, *rest)
            self.assertIs(caught.exception.wishes, wishes)
        with self.assertRaises(NoWishes):
            function(Hall(), {"a": ZERO}, *rest)
        self.assertEqual(hall.text, "wheels a b; ratchet a")

    def assert_no_wheel(self, ask):
        hall = Hall.read("wheels a b; ratchet a")
        for wheel in [value for value in right.JUNK if value != "a"] + ["c", "1", Brake("a"), ["a"]]:
            with self.assertRaises(NoWheel) as caught:
                ask(hall, wheel)
            self.assertIs(caught.exception.name, wheel)

    def assert_own(self, function, hall, wishes, *rest, **more):
        """The answer is right in kinds and order, new each time, and nothing is changed."""
        text, before = hall.text, dict(wishes)
        told = function(hall, wishes, *rest, **more)
        self.assertTrue(right.plain(told))
        held = right.holders(told)
        self.assertEqual(len({id(one) for one in held}), len(held))
        other, again = Hall.read(text), dict(reversed(wishes.items()))
        same = function(other, again, *rest, **more)
        self.assertEqual(same, told)
        for one in right.holders(same):
            one.clear()
        self.assertEqual(function(other, again, *rest, **more), told)
        self.assertEqual((hall.text, wishes, list(wishes)), (text, before, list(before)))
        return told

    def assert_driven(self, hall, wishes):
        told = self.assert_own(driven, hall, wishes)
        self.assertTrue(right.driven(hall, wishes, told), (hall.text, wishes, told))
        self.assertIs(drives(hall, wishes, told), True)
        if told[0] == "runs":
            self.assertEqual(list(told[1]), list(hall.wheels))
            self.assertIsNone(broken(hall, told[1]))
        return told

    def assert_most(self, hall, wishes, wheel, backward):
        told = self.assert_own(most, hall, wishes, wheel, backward=backward)
        sign = -1 if backward else 1
        self.assertTrue(right.most(hall, wishes, wheel, told, sign), (hall.text, wishes, wheel, told))
        self.assertIs(most_shown(hall, wishes, wheel, told, backward=backward), True)
        for motion in {"most": told[2:3], "endless": told[1:]}.get(told[0], ()):
            self.assertEqual(list(motion), list(hall.wheels))
        return told


class InterfaceTest(unittest.TestCase):
    def test_names_and_arguments(self):
        for function, told in (
            (driven, "(hall, wishes)"),
            (drives, "(hall, wishes, told)"),
            (most, "(hall, wishes, wheel, *, backward=False)"),
            (most_shown, "(hall, wishes, wheel, told, *, backward=False)"),
            (settled, "(hall, wishes)"),
        ):
            self.assertEqual(str(inspect.signature(function)), told)
            self.assertEqual(function.__module__, wishes_file.__name__)

    def test_arguments_by_name(self):
        hall = Hall.read("wheels a; ratchet a")
        self.assertEqual(driven(wishes={"a": ONE}, hall=hall), ("runs", {"a": ONE}))
        self.assertIs(drives(told=("runs", {"a": ONE}), wishes={"a": ONE}, hall=hall), True)
        told = most(backward=True, wheel="a", wishes={}, hall=hall)
        self.assertEqual(told, ("most", ZERO, {"a": ZERO}, {}, [ONE]))
        shown = most_shown(backward=True, told=told, wheel="a", wishes={}, hall=hall)
        self.assertIs(shown, True)
        self.assertEqual(settled(wishes={"a": TWO}, hall=hall), {"a": TWO})


class DrivenTest(WishesCase):
    def test_examples(self):
        for text, wishes, known in DRIVEN:
            told = self.assert_driven(Hall.read(text), wishes)
            self.assertEqual(told[0], "stuck" if known is None else "runs", (text, wishes))

    def test_wishes_of_motions_run(self):
        for seed in range(150):
            draw = random.Random(seed)
            hall = drawing.any_hall(draw)
            word, motion = verdict(hall, drawing.load(draw, hall))
            if word == "drops":
                names = draw.sample(hall.wheels, draw.randint(0, len(hall.wheels)))
                wishes = {name: motion[name] for name in names}
                self.assertEqual(self.assert_driven(hall, wishes)[0], "runs")

    def test_drawn(self):
        words = []
        for seed in range(200):
            draw = random.Random(seed)
            hall = drawing.any_hall(draw)
            words.append(self.assert_driven(hall, some_wishes(draw, hall))[0])
        self.assertTrue(words.count("runs") > 30 and words.count("stuck") > 30)

    def test_no_wishes(self):
        self.assert_no_wishes(driven)


def some_wishes(draw, hall):
    """Wishes of few wheels; half of the time they are those of a sum of motions, bent or not."""
    names = draw.sample(hall.wheels, draw.randint(0, min(4, len(hall.wheels))))
    turns = {name: Fraction(0) for name in names}
    if draw.random() < 0.7:
        for _ in range(3):
            word, motion = verdict(hall, drawing.load(draw, hall))
            if word == "drops":
                times = drawing.fraction(draw, 0, 3, 2)
                turns = {name: turns[name] + times * right.number(motion[name]) for name in names}
    if draw.random() < 0.5 and names:
        turns[draw.choice(names)] += drawing.fraction(draw, -2, 2, 3)
    return {name: right.written(turn) for name, turn in turns.items()}


class DrivesTest(WishesCase):
    def test_right_and_bent_answers(self):
        many = {True: 0, False: 0}
        for text, wishes, _ in DRIVEN:
            hall, before = Hall.read(text), dict(wishes)
            for bent in right.bent(driven(hall, wishes)):
                answer = right.driven(hall, wishes, bent)
                many[answer] += 1
                self.assertIs(drives(hall, wishes, bent), answer, (text, wishes, bent))
            self.assertEqual((hall.text, wishes), (text, before))
        self.assertTrue(many[True] > 10 and many[False] > 800, many)

    def test_other_right_answers(self):
        hall = Hall.read("wheels a b; freewheel a b; ratchet b")
        for wishes, told in (
            ({"a": ONE}, ("runs", {"b": HALF, "a": ONE})),
            ({"a": ONE}, ("runs", {"a": ONE, "b": ZERO})),
            ({}, ("runs", {"a": (9, 1), "b": (8, 1)})),
            ({"a": LESS}, ("stuck", {"a": LESS}, [ONE, ONE])),
            ({"a": LESS}, ("stuck", {"a": (-7, 3)}, [(7, 3), (7, 3)])),
            ({"a": ONE, "b": TWO}, ("stuck", {"a": LESS, "b": ONE}, [ONE, ZERO])),
            ({"a": ONE, "b": LESS}, ("stuck", {"b": LESS}, [ZERO, ONE])),
            ({"a": ONE, "b": LESS}, ("stuck", {"b": LESS, "a": ZERO}, [ZERO, ONE])),
        ):
            self.assertTrue(right.driven(hall, wishes, told))
            self.assertIs(drives(hall, wishes, told), True, (wishes, told))

    def test_each_condition_alone(self):
        hall = Hall.read("wheels a b; freewheel a b; ratchet b")
        good, held = {"a": ONE}, {"a": LESS}
        for wishes, told in (
            (good, ("runs", {"a": ONE})),
            (good, ("runs", {"a": TWO, "b": ONE})),
            (good, ("runs", {"a": ONE, "b": TWO})),
            (good, ("runs", {"a": ONE, "b": LESS})),
            (good, ("runs", {"a": ONE, "b": ONE, "c": ONE})),
            (good, ("runs", [ONE, ONE])),
            (good, ("run", {"a": ONE, "b": ONE})),
            (good, ("stuck", {"a": ONE, "b": ONE})),
            (good, ["runs", {"a": ONE, "b": ONE}]),
            (good, ("runs", {"a": ONE, "b": ONE}, [])),
            (good, ("stuck", {"a": ONE}, [LESS, LESS])),
            (held, ("stuck", {}, [ZERO, ZERO])),
            (held, ("stuck", {"a": ONE}, [ONE, ONE])),
            (held, ("stuck", {"a": LESS}, [ONE, TWO])),
            (held, ("stuck", {"a": LESS}, [ONE])),
            (held, ("stuck", {"a": LESS}, (ONE, ONE))),
            # The work is positive and the forces balance, but b is not wished.
            (held, ("stuck", {"a": LESS, "b": LESS}, [ONE, TWO])),
            (held, ("runs", {"a": LESS}, [ONE, ONE])),
            (held, ("stuck", [ONE, ONE], {"a": LESS})),
            (held, ("stuck", {"a": -1}, [ONE, ONE])),
            (held, ["stuck", {"a": LESS}, [ONE, ONE]]),
        ):
            self.assertIs(drives(hall, wishes, told), False, (wishes, told))

    def test_values_of_every_kind(self):
        for text, wishes, _ in DRIVEN:
            hall = Hall.read(text)
            for told in right.JUNK + [Brake("a"), ("runs", Brake("a")), (Brake("a"), {})]:
                answer = right.driven(hall, wishes, told)
                self.assertIs(drives(hall, wishes, told), answer, (text, wishes, told))

    def test_no_wishes(self):
        self.assert_no_wishes(drives, ("runs", {"a": ZERO, "b": ZERO}))
        self.assert_no_wishes(drives, None)


class MostTest(WishesCase):
    def test_examples(self):
        for text, wishes, wheel, backward, expected in MOST:
            told = self.assert_most(Hall.read(text), wishes, wheel, backward)
            if isinstance(expected, str):
                self.assertEqual(told[0], expected, (text, wishes, wheel))
            else:
                self.assertEqual(told[:2], ("most", expected), (text, wishes, wheel))

    def test_forward_is_asked_if_nothing_is_said(self):
        hall = Hall.read("wheels a; ratchet a")
        self.assertEqual(most(hall, {}, "a")[0], "endless")
        self.assertEqual(most(hall, {}, "a", backward=False)[0], "endless")
        with self.assertRaises(TypeError):
            most(hall, {}, "a", True)

    def test_drawn(self):
        words = []
        for seed in range(100):
            draw = random.Random(seed)
            hall = drawing.any_hall(draw)
            wishes = some_wishes(draw, hall)
            wheel = draw.choice(hall.wheels)
            ahead = self.assert_most(hall, wishes, wheel, False)
            back = self.assert_most(hall, wishes, wheel, True)
            words += [ahead[0], back[0]]
            if ahead[0] == back[0] == "most":
                self.assertGreaterEqual(right.number(ahead[1]) + right.number(back[1]), 0)
            if ahead[0] == "most" and wheel not in wishes:
                # One more is too much, and the greatest turn is granted.
                wish = {**wishes, wheel: ahead[1]}
                self.assertEqual(driven(hall, wish)[0], "runs")
                wish[wheel] = right.written(right.number(ahead[1]) + Fraction(1, 10**9))
                self.assertEqual(driven(hall, wish)[0], "stuck")
        for word in ("most", "endless", "stuck"):
            self.assertGreater(words.count(word), 20, word)

    def test_errors(self):
        self.assert_no_wishes(most, "a")
        self.assert_no_wishes(most, "zz")
        self.assert_no_wheel(lambda hall, wheel: most(hall, {"a": LESS}, wheel))
        self.assert_no_wheel(lambda hall, wheel: most(hall, {}, wheel, backward=True))


class MostShownTest(WishesCase):
    def test_right_and_bent_answers(self):
        many = {True: 0, False: 0}
        for text, wishes, wheel, backward, _ in MOST:
            hall, before = Hall.read(text), dict(wishes)
            sign = -1 if backward else 1
            told = most(hall, wishes, wheel, backward=backward)
            for bent in [told, *right.bent(told)]:
                for way in (sign, -sign):
                    answer = right.most(hall, wishes, wheel, bent, way)
                    many[answer] += 1
                    shown = most_shown(hall, wishes, wheel, bent, backward=way < 0)
                    self.assertIs(shown, answer, (text, wishes, wheel, way, bent))
            self.assertEqual((hall.text, wishes), (text, before))
        self.assertTrue(many[True] > 60 and many[False] > 3000, many)

    def test_answers_of_the_other_direction_and_of_other_words(self):
        for text, wishes, wheel, backward, _ in MOST:
            hall = Hall.read(text)
            told = most(hall, wishes, wheel, backward=backward)
            sign = 1 if backward else -1
            other = right.most(hall, wishes, wheel, told, sign)
            self.assertIs(most_shown(hall, wishes, wheel, told, backward=not backward), other)
            for word in ("most", "endless", "stuck", "runs"):
                bent = (word, *told[1:])
                if word != told[0]:
                    self.assertIs(most_shown(hall, wishes, wheel, bent, backward=backward), False)

    def test_each_condition_alone(self):
        hall = Hall.read("wheels a b; freewheel a b; ratchet b; ratchet a")
        wishes, motion = {"a": TWO}, {"a": TWO, "b": TWO}
        good = ("most", TWO, motion, {"a": ONE}, [ONE, ZERO, ZERO])
        self.assertIs(most_shown(hall, wishes, "b", good), True)
        for told in (
            ("most", ONE, {"a": TWO, "b": ONE}, {"a": ONE}, [ONE, ZERO, ZERO]),
            ("most", ONE, motion, {"a": HALF}, [ONE, ZERO, ZERO]),
            ("most", 2, motion, {"a": ONE}, [ONE, ZERO, ZERO]),
            ("most", (4, 2), motion, {"a": ONE}, [ONE, ZERO, ZERO]),
            ("most", TWO, {"a": (3, 1), "b": TWO}, {"a": ONE}, [ONE, ZERO, ZERO]),
            ("most", TWO, {"a": TWO, "b": (3, 1)}, {"a": ONE}, [ONE, ZERO, ZERO]),
            ("most", TWO, {"b": TWO}, {"a": ONE}, [ONE, ZERO, ZERO]),
            ("most", TWO, motion, {"a": ONE, "b": ZERO}, [ONE, ZERO, ZERO]),
            ("most", TWO, motion, {"a": TWO}, [ONE, ZERO, ONE]),
            ("most", TWO, motion, {"a": ONE}, [ONE, ZERO, ONE]),
            ("most", TWO, motion, {"a": ONE}, [ONE, ZERO]),
            ("most", TWO, motion, {"a": ONE}, (ONE, ZERO, ZERO)),
            ("most", TWO, motion, {"b": ONE}, [ZERO, ZERO, ZERO]),
            ("most", TWO, motion, {}, [ONE, ZERO, ZERO]),
            ("most", TWO, motion, {"a": ONE}),
            ("endless", TWO, motion, {"a": ONE}, [ONE, ZERO, ZERO]),
            list(good),
            ("endless", motion, {"a": ONE, "b": ONE}),
            ("endless", motion, {"a": ZERO, "b": ONE}),
            ("endless", motion, {"a": ZERO, "b": ZERO}),
            ("stuck", {"a": ONE}, [ONE, ZERO, ZERO]),
        ):
            self.assertIs(most_shown(hall, wishes, "b", told), False, told)
        wishes, motion = {"b": TWO}, {"a": TWO, "b": TWO}
        self.assertIs(most_shown(hall, wishes, "a", ("endless", motion, {"a": ONE, "b": ZERO})), True)
        for told in (
            ("endless", motion, {"a": ONE, "b": ONE}),
            ("endless", motion, {"a": LESS, "b": ZERO}),
            ("endless", motion, {"a": ZERO, "b": ZERO}),
            ("endless", motion, {"a": ONE}),
            ("endless", {"a": ONE, "b": TWO}, {"a": ONE, "b": ZERO}),
            ("endless", {"a": (3, 1), "b": (3, 1)}, {"a": ONE, "b": ZERO}),
            ("most", motion, {"a": ONE, "b": ZERO}),
            ["endless", motion, {"a": ONE, "b": ZERO}],
        ):
            self.assertIs(most_shown(hall, wishes, "a", told), False, told)

    def test_values_of_every_kind(self):
        for text, wishes, wheel, backward, _ in MOST:
            hall, sign = Hall.read(text), -1 if backward else 1
            for told in right.JUNK + [Brake("a"), ("most", Brake("a"), {}, {}, [])]:
                answer = right.most(hall, wishes, wheel, told, sign)
                shown = most_shown(hall, wishes, wheel, told, backward=backward)
                self.assertIs(shown, answer, (text, wishes, told))

    def test_errors(self):
        self.assert_no_wishes(most_shown, "a", ("stuck", {}, []))
        self.assert_no_wishes(most_shown, "zz", None)
        self.assert_no_wheel(lambda hall, wheel: most_shown(hall, {"a": LESS}, wheel, None))
        self.assert_no_wheel(lambda hall, wheel: most_shown(hall, {}, wheel, (), backward=True))


class SettledTest(WishesCase):
    def test_examples(self):
        for text, wishes, known in DRIVEN:
            hall = Hall.read(text)
            told = self.assert_own(settled, hall, wishes)
            self.assertEqual(told, known, (text, wishes))
            if known is not None:
                self.assertEqual(list(told), [name for name in hall.wheels if name in known])

    def test_drawn(self):
        many = {"settled": 0, "loose": 0, "none": 0}
        for seed in range(100):
            draw = random.Random(seed)
            hall = drawing.any_hall(draw)
            wishes = some_wishes(draw, hall)
            told = self.assert_own(settled, hall, wishes)
            if told is None:
                self.assertEqual(driven(hall, wishes)[0], "stuck")
                many["none"] += 1
                continue
            self.assertEqual(list(told), [name for name in hall.wheels if name in told])
            self.assertLessEqual(set(wishes), set(told))
            for name in hall.wheels:
                # Exactly the wheels that turn as far forward as backward are settled.
                ends = [most(hall, wishes, name, backward=backward) for backward in (False, True)]
                tight = all(end[0] == "most" for end in ends)
                tight = tight and right.number(ends[0][1]) == -right.number(ends[1][1])
                self.assertEqual(name in told, tight, (hall.text, wishes, name))
                if tight:
                    self.assertEqual(told[name], ends[0][1])
                many["settled" if tight else "loose"] += 1
        self.assertGreater(min(many.values()), 20, many)

    def test_no_wishes(self):
        self.assert_no_wishes(settled)


class GreatTest(WishesCase):
    def test_great_tops_and_bottoms(self):
        great = 10**900
        words = []
        for seed in range(20):
            draw = random.Random(seed)
            hall = drawing.hall(draw, 8, 3 + seed % 3, 5, teeth=999999)
            word, motion = verdict(hall, drawing.load(draw, hall, great, great))
            names = draw.sample(hall.wheels, 3)
            wishes = {name: motion[name] for name in names} if word == "drops" else {}
            if seed % 3 == 0:
                wishes = drawing.load(draw, hall, great, great)
            wheel = draw.choice(hall.wheels)
            words.append(self.assert_driven(hall, wishes)[0])
            words.append(self.assert_most(hall, wishes, wheel, False)[0])
            words.append(self.assert_most(hall, wishes, wheel, True)[0])
            self.assertIs(settled(hall, wishes) is None, words[-1] == "stuck")
        self.assertEqual(set(words), {"runs", "stuck", "most", "endless"})

    def test_a_hundred_wheels_and_parts(self):
        for seed, ties in ((1, 91), (2, 50)):
            draw = random.Random(seed)
            hall = drawing.hall(draw, 100, ties, 9, teeth=30)
            for _ in range(3):
                wishes = some_wishes(draw, hall)
                self.assert_driven(hall, wishes)
                self.assert_most(hall, wishes, draw.choice(hall.wheels), draw.random() < 0.5)
                told = settled(hall, wishes)
                self.assertIs(told is None, driven(hall, wishes)[0] == "stuck")

    def test_a_wish_for_every_wheel_of_a_long_row(self):
        names = drawing.names(100)
        hall, turns = Hall(*names), {names[0]: (1, 1)}
        for at, (one, other) in enumerate(zip(names, names[1:])):
            hall.put(Mesh(one, other, at + 1, at + 2))
            turns[other] = right.written(right.number(turns[one]) * Fraction(-at - 1, at + 2))
        hall.put(Ratchet(names[98]))
        self.assertEqual(driven(hall, turns), ("runs", turns))
        self.assertEqual(settled(hall, {names[50]: turns[names[50]]}), turns)
        back = drawing.times(turns, -1)
        self.assertEqual(self.assert_driven(hall, back)[0], "stuck")
        told = self.assert_most(hall, {names[0]: (2, 1)}, names[99], True)
        self.assertEqual(told[:2], ("most", right.written(-2 * right.number(turns[names[99]]))))

    def test_halls_that_are_built(self):
        form = Form.read(
            "form a b c d e; tie 3 0 0 -4 5; pawl 0 -7 3 -1 9; pawl 0 -3 2 5 -1; pawl 0 1 -8 2 3"
        )
        hall = built(form)
        words = []
        for seed in range(40):
            draw = random.Random(seed)
            wishes = some_wishes(draw, hall)
            words.append(self.assert_driven(hall, wishes)[0])
            words.append(self.assert_most(hall, wishes, draw.choice("abcde"), seed % 2 == 0)[0])
        self.assertEqual(set(words), {"runs", "stuck", "most", "endless"})

    def test_answers_as_arguments(self):
        for seed in range(60):
            draw = random.Random(seed)
            hall = drawing.any_hall(draw)
            told = driven(hall, some_wishes(draw, hall))
            if told[0] == "runs":
                known = settled(hall, told[1])
                self.assertEqual(known, told[1])
                self.assertEqual(driven(hall, known), ("runs", told[1]))
            else:
                word, load, forces = told
                self.assertEqual(verdict(hall, load)[0], "holds")
                self.assert_driven(hall, load)
                self.assertEqual(word, "stuck")
                self.assertEqual(len(forces), len(hall))


if __name__ == "__main__":
    unittest.main()
