"""Point [24]: reach, fewest, and the judge reaches."""

import inspect
import random
import unittest
from fractions import Fraction
from itertools import combinations

import drawing
import right
from pawlhall import boxes
from pawlhall.boxes import Box, fewest, reach, reaches
from pawlhall.errors import NoWishes
from pawlhall.motions import broken, work
from pawlhall.parts import Brake, Freewheel, Ratchet
from pawlhall.wishes import driven

ONE, TWO, HALF, ZERO, LESS = (1, 1), (2, 1), (1, 2), (0, 1), (-1, 1)

BRAKES = "wheels a b; lever low; brake b; lever high; brake a"
PAWLS = "wheels a b; lever low; ratchet a; brake b; lever high; ratchet b; brake a"
GEARS = "wheels a b; lever low; chain a b 1 2; lever high; mesh a b 1 1; lever mid; brake a"
THREE = "wheels a b c; lever one; brake b; brake c; lever two; brake a; brake c; lever three;" \
    " brake a; brake b"

# For each box and wishes: the positions of the plan with the fewest, None if there is no plan.
FEWEST = [
    ("wheels", {}, ()),
    ("wheels a", {}, ()),
    ("wheels a", {"a": ZERO}, ()),
    ("wheels a", {"a": ONE}, ("",)),
    ("wheels a; brake a", {"a": ZERO}, ()),
    ("wheels a; brake a", {"a": ONE}, None),
    ("wheels a; ratchet a", {"a": LESS}, None),
    ("wheels a; ratchet a", {"a": HALF}, ("",)),
    (BRAKES, {"a": ONE}, ("low",)),
    (BRAKES, {"b": ONE}, ("high",)),
    (BRAKES, {"a": ZERO, "b": ONE}, ("high",)),
    (BRAKES, {"a": ONE, "b": ONE}, ("low", "high")),
    (BRAKES, {"b": ZERO, "a": ZERO}, ()),
    (PAWLS, {"a": ONE}, ("low",)),
    (PAWLS, {"a": LESS}, None),
    (PAWLS, {"a": ONE, "b": LESS}, None),
    (PAWLS, {"a": ONE, "b": TWO}, ("low", "high")),
    (GEARS, {"a": ONE}, ("low",)),
    (GEARS, {"b": ONE}, ("low",)),
    (GEARS, {"a": TWO, "b": ONE}, ("low",)),
    (GEARS, {"a": ONE, "b": LESS}, ("high",)),
    (GEARS, {"a": ZERO, "b": LESS}, ("mid",)),
    (GEARS, {"a": ONE, "b": ONE}, ("low", "high")),
    (THREE, {"c": ONE}, ("three",)),
    (THREE, {"c": ONE, "a": ONE}, ("one", "three")),
    (THREE, {"c": ONE, "a": ONE, "b": LESS}, ("one", "two", "three")),
    (THREE + "; ratchet c backward", {"c": ONE, "a": ONE}, None),
    ("wheels a b; ratchet a; lever one; lever two; freewheel b a", {"a": ONE, "b": LESS}, ("one",)),
    ("wheels a b; ratchet a; lever two; freewheel b a; lever one", {"a": ONE, "b": LESS}, ("one",)),
    ("wheels a b; ratchet a; lever one; lever two", {"a": LESS, "b": LESS}, None),
]


def no_wishes(box):
    wrong = [value for value in right.JUNK if not right.is_load(value, box.wheels)]
    return wrong + [
        {"c": ONE}, {"a": ONE, "low": ZERO}, {"low": ONE}, {"a": 1}, {"a": (1, 0)}, {"a": (2, 2)},
        {"a": [1, 1]}, {"a": (True, 1)}, {"a": None}, {"": ONE}, {1: ONE}, [("a", ONE)], Brake("a"),
        {"a": ONE, None: ONE}, {"1": ONE},
    ]


def with_only(box, levers):
    """The box with only these positions; none of them may be missing."""
    other = Box(*box.wheels)
    for part in box.parts:
        other.put(part)
    for name in levers:
        other.lever(name, *box.at(name).parts[len(box) :])
    return other


class ReachCase(unittest.TestCase):
    def assert_answer(self, function, box, wishes):
        text, before = box.text, dict(wishes)
        told = function(box, wishes)
        self.assertTrue(right.plain(told))
        self.assertTrue(right.reached(box, wishes, told), (text, wishes, told))
        self.assertIs(reaches(box, wishes, told), True)
        self.assert_order(box, told)
        held = right.holders(told)
        self.assertEqual(len({id(one) for one in held}), len(held))
        same = function(Box.read(text), dict(reversed(wishes.items())))
        self.assertEqual(same, told)
        for one in right.holders(same):
            one.clear()
        self.assertEqual(function(box, wishes), told)
        self.assertEqual((box.text, wishes, list(wishes)), (text, before, list(before)))
        return told

    def assert_order(self, box, told):
        table = told[1] if told[0] == "reached" else told[2]
        self.assertEqual(list(table), [name for name in box.levers if name in table])
        if told[0] == "reached":
            for name, motion in table.items():
                self.assertEqual(list(motion), list(box.wheels))
                self.assertIsNone(broken(box.at(name), motion))
        else:
            self.assertEqual(list(table), list(box.levers))

    def assert_fewest(self, box, wishes):
        """The plan is right, and no plan has fewer positions or as many that come earlier."""
        told = self.assert_answer(fewest, box, wishes)
        if told[0] == "never":
            self.assertEqual(told, reach(box, wishes))
            return None
        chosen = tuple(told[1])
        self.assertLessEqual(len(chosen), len(wishes))
        places = tuple(box.levers.index(name) for name in chosen)
        for many in range(1, len(places) + 1):
            for numbers in combinations(range(len(box.levers)), many):
                if many < len(places) or numbers < places:
                    names = [box.levers[number] for number in numbers]
                    other = box if box.levers == ("",) else with_only(box, names)
                    never = reach(other, wishes)
                    self.assertEqual(never[0], "never", (box.text, wishes, chosen, names))
                    self.assertTrue(right.reached(other, wishes, never))
        if chosen:
            self.assertTrue(any(value[0] for value in wishes.values()))
        return chosen

    def assert_no_wishes(self, function, *rest):
        box = Box.read("wheels a b; ratchet a; lever low; brake b")
        for wishes in no_wishes(box):
            with self.assertRaises(NoWishes) as caught:
                function(box, wishes, *rest)
            self.assertIs(caught.exception.wishes, wishes)
        self.assertEqual(box.text, "wheels a b; ratchet a; lever low; brake b")


class InterfaceTest(unittest.TestCase):
    def test_names_and_arguments(self):
        for function, told in (
            (reach, "(box, wishes)"),
            (fewest, "(box, wishes)"),
            (reaches, "(box, wishes, told)"),
        ):
            self.assertEqual(str(inspect.signature(function)), told)
            self.assertEqual(function.__module__, boxes.__name__)

    def test_arguments_by_name(self):
        box = Box.read(BRAKES)
        plan = {"low": {"a": ONE, "b": ZERO}}
        self.assertEqual(fewest(wishes={"a": ONE}, box=box), ("reached", plan))
        self.assertEqual(reach(wishes={"a": ONE}, box=box)[0], "reached")
        self.assertIs(reaches(told=("reached", plan), wishes={"a": ONE}, box=box), True)


class ReachTest(ReachCase):
    def test_examples(self):
        for text, wishes, levers in FEWEST:
            told = self.assert_answer(reach, Box.read(text), wishes)
            self.assertEqual(told[0], "never" if levers is None else "reached", (text, wishes))

    def test_one_position_is_a_hall(self):
        for seed in range(100):
            draw = random.Random(seed)
            box = drawing.box(draw, levers=0)
            wishes = some_wishes(draw, box)
            told = self.assert_answer(reach, box, wishes)
            word = {"runs": "reached", "stuck": "never"}[driven(box, wishes)[0]]
            self.assertEqual(told[0], word)

    def test_drawn(self):
        words = []
        for seed in range(500):
            draw = random.Random(seed)
            box = drawing.box(draw)
            words.append(self.assert_answer(reach, box, some_wishes(draw, box))[0])
        self.assertTrue(words.count("reached") > 40 and words.count("never") > 40)

    def test_no_wishes(self):
        self.assert_no_wishes(reach)


def some_wishes(draw, box):
    """Wishes of some wheels: half of the time they are sums of motions in some positions."""
    names = draw.sample(box.wheels, draw.randint(0, len(box.wheels)))
    turns = {name: Fraction(0) for name in names}
    if draw.random() < 0.7:
        for lever in draw.sample(box.levers, draw.randint(0, len(box.levers))):
            hall = box.at(lever)
            told = driven(hall, {draw.choice(box.wheels): draw.choice([ONE, LESS])})
            if told[0] == "runs":
                times = drawing.fraction(draw, 0, 3, 3)
                turns = {name: turns[name] + times * right.number(told[1][name]) for name in names}
    if draw.random() < 0.4 and names:
        turns[draw.choice(names)] += drawing.fraction(draw, -2, 2, 3)
    return {name: right.written(turn) for name, turn in turns.items()}


class FewestTest(ReachCase):
    def test_examples(self):
        for text, wishes, levers in FEWEST:
            self.assertEqual(self.assert_fewest(Box.read(text), wishes), levers, (text, wishes))

    def test_the_motions_of_the_plan(self):
        told = fewest(Box.read(BRAKES), {"b": (-7, 3), "a": TWO})
        plan = {"low": {"a": TWO, "b": ZERO}, "high": {"a": ZERO, "b": (-7, 3)}}
        self.assertEqual(told, ("reached", plan))
        self.assertEqual(fewest(Box("a"), {"a": HALF}), ("reached", {"": {"a": HALF}}))

    def test_drawn(self):
        many = []
        for seed in range(500):
            draw = random.Random(seed)
            box = drawing.box(draw, parts=1 + 3 * (seed % 2))
            chosen = self.assert_fewest(box, some_wishes(draw, box))
            many.append(None if chosen is None else len(chosen))
        for one, least in ((None, 40), (0, 40), (1, 40), (2, 0)):
            self.assertGreater(many.count(one), least, one)

    def test_as_many_positions_as_wishes(self):
        many = []
        for seed in range(60):
            draw = random.Random(seed)
            box = Box(*"abc")
            for name in ("one", "two", "three"):
                parts = [drawing.tie(draw, box.wheels, 3), drawing.tie(draw, box.wheels, 3)]
                box.lever(name, *parts)
            wishes = {name: right.written(drawing.fraction(draw, -3, 3, 2)) for name in "abc"}
            many.append(len(self.assert_fewest(box, wishes) or ()))
        self.assertTrue(many.count(2) > 3 and many.count(3) > 3, many)

    def test_great_numbers(self):
        great = 10**990
        box = Box.read("wheels a b; lever low; chain a b 999999 7; lever high; mesh a b 5 999983")
        wishes = {"a": (great + 1, great), "b": (-1, great)}
        self.assertEqual(self.assert_fewest(box, wishes), ("low", "high"))
        box.put(Ratchet("a"))
        box.put(Freewheel("a", "b"))
        self.assert_fewest(box, wishes)
        self.assert_fewest(box, {"b": (great, 1)})

    def test_no_wishes(self):
        self.assert_no_wishes(fewest)


class ReachesTest(ReachCase):
    def test_right_and_bent_answers(self):
        many = {True: 0, False: 0}
        for text, wishes, _ in FEWEST:
            box, before = Box.read(text), dict(wishes)
            for told in (reach(box, wishes), fewest(box, wishes)):
                for bent in [told, *right.bent(told), *moved(box, told)]:
                    answer = right.reached(box, wishes, bent)
                    many[answer] += 1
                    self.assertIs(reaches(box, wishes, bent), answer, (text, wishes, bent))
            self.assertEqual((box.text, wishes), (text, before))
        self.assertTrue(many[True] > 60 and many[False] > 2000, many)

    def test_each_condition_alone(self):
        box, wishes = Box.read(PAWLS), {"a": ONE, "b": TWO}
        low, high = {"a": ONE, "b": ZERO}, {"a": ZERO, "b": TWO}
        for told, answer in (
            (("reached", {"low": low, "high": high}), True),
            (("reached", {"high": high, "low": low}), True),
            (("reached", {"low": low}), False),
            (("reached", {"low": low, "high": {**high, "b": ONE}}), False),
            (("reached", {"low": high, "high": low}), False),
            (("reached", {"low": low, "high": high, "": {"a": ZERO, "b": ZERO}}), False),
            (("reached", {"low": low, "high": high, "mid": low}), False),
            (("reached", {"low": low, "high": high, None: low}), False),
            (("reached", {"low": {"a": ONE}, "high": high}), False),
            (("reached", {"low": {"a": (2, 2), "b": ZERO}, "high": high}), False),
            (("reached", [low, high]), False),
            (("never", {"low": low, "high": high}), False),
            (["reached", {"low": low, "high": high}], False),
            (("reached", {"low": low, "high": high}, {}), False),
        ):
            self.assertIs(reaches(box, wishes, told), answer, told)
        load, forces = {"a": LESS}, {"low": [ONE, ZERO], "high": [ZERO, ONE]}
        wishes = {"a": LESS}
        for told, answer in (
            (("never", load, forces), True),
            (("never", {"a": (-2, 1)}, {"high": [ZERO, TWO], "low": [TWO, ZERO]}), True),
            (("never", load, {"low": [ONE, ZERO]}), False),
            (("never", load, {**forces, "mid": [ONE, ZERO]}), False),
            (("never", load, {"low": [ONE, ZERO], "mid": [ZERO, ONE]}), False),
            (("never", load, {**forces, "high": [ZERO, TWO]}), False),
            (("never", load, {**forces, "low": (ONE, ZERO)}), False),
            (("never", load, [[ONE, ZERO], [ZERO, ONE]]), False),
            (("never", {"a": ONE}, {"low": [LESS, ZERO], "high": [ZERO, LESS]}), False),
            (("never", {}, {"low": [ZERO, ZERO], "high": [ZERO, ZERO]}), False),
            (("never", {"a": LESS, "b": ZERO}, forces), False),
            (("never", {"a": -1}, forces), False),
            (("reached", load, forces), False),
            (("never", load), False),
            (["never", load, forces], False),
        ):
            self.assertIs(reaches(box, wishes, told), answer, told)
        self.assertEqual(work(load, wishes), ONE)

    def test_a_plan_without_positions(self):
        box = Box.read(BRAKES)
        self.assertIs(reaches(box, {}, ("reached", {})), True)
        self.assertIs(reaches(box, {"a": ZERO}, ("reached", {})), True)
        self.assertIs(reaches(box, {"a": ONE}, ("reached", {})), False)

    def test_values_of_every_kind(self):
        for text, wishes, _ in FEWEST:
            box = Box.read(text)
            for told in right.JUNK + [Brake("a"), ("reached", Brake("a")), ("never", Brake("a"), {})]:
                answer = right.reached(box, wishes, told)
                self.assertIs(reaches(box, wishes, told), answer, (text, wishes, told))

    def test_no_wishes(self):
        self.assert_no_wishes(reaches, ("reached", {}))
        self.assert_no_wishes(reaches, None)


def moved(box, told):
    """Answers with the rows of positions exchanged, left out, renamed or in another order."""
    word, *rest, table = told
    names = list(table)
    yield (word, *rest, dict(reversed(table.items())))
    for at, name in enumerate(names):
        yield (word, *rest, {key: row for key, row in table.items() if key != name})
        yield (word, *rest, {**table, name: table[names[at - 1]]})
        for other in ("zz", "", None, 0, *box.levers):
            yield (word, *rest, {(other if key == name else key): row for key, row in table.items()})


if __name__ == "__main__":
    unittest.main()
