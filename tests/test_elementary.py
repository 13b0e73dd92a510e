"""Points [27] and [28]: elementary motions, and motions parted into them."""

import inspect
import random
import unittest
from fractions import Fraction
from itertools import combinations, product

import drawing
import right
import spaces
from pawlhall import elementary as elementary_file
from pawlhall.elementary import elementary, parted, parted_shown
from pawlhall.errors import NoTurns
from pawlhall.forms import Form, built
from pawlhall.halls import Hall
from pawlhall.motions import broken
from pawlhall.parts import Brake
from pawlhall.wheels import seen_from

ONE, TWO, HALF, ZERO, LESS = (1, 1), (2, 1), (1, 2), (0, 1), (-1, 1)

# For each hall: the turns of its elementary motions.
ELEMENTARY = [
    ("wheels", []),
    ("wheels a; brake a", []),
    ("wheels a; ratchet a; ratchet a backward", []),
    ("wheels a", [(-1,), (1,)]),
    ("wheels a; ratchet a", [(1,)]),
    ("wheels a; ratchet a; ratchet a", [(1,)]),
    ("wheels a; ratchet a backward", [(-1,)]),
    ("wheels a b", [(-1, 0), (0, -1), (0, 1), (1, 0)]),
    ("wheels a b; brake b", [(-1, 0), (1, 0)]),
    ("wheels a b; chain a b 2 3", [(-3, -2), (3, 2)]),
    ("wheels b a; chain a b 4 6", [(-2, -3), (2, 3)]),
    ("wheels a b; mesh a b 2 3; ratchet b", [(-3, 2)]),
    ("wheels a b; ratchet a; ratchet b", [(0, 1), (1, 0)]),
    # Where a freewheel does not click, a and b turn together: a motion of its own.
    ("wheels a b; freewheel a b", [(-1, -1), (0, -1), (1, 0), (1, 1)]),
    ("wheels a b; freewheel a b; freewheel b a", [(-1, -1), (1, 1)]),
    ("wheels a b; freewheel a b; ratchet b", [(1, 0), (1, 1)]),
    ("wheels a b; freewheel a b; brake b", [(1, 0)]),
    (
        "wheels a b c; differential a b c 1 1",
        [(-2, 0, -1), (-1, 1, 0), (0, -2, -1), (0, 2, 1), (1, -1, 0), (2, 0, 1)],
    ),
    (
        "wheels a b c; differential a b c 1 2; ratchet c",
        [(-2, 1, 0), (0, 3, 2), (2, -1, 0), (3, 0, 1)],
    ),
    (
        "wheels a b c; freewheel a b; freewheel b c; ratchet c; ratchet a; freewheel a c",
        [(1, 0, 0), (1, 1, 0), (1, 1, 1)],
    ),
]


def turns_of(hall):
    """The turns of what elementary yields, as tuples of integers."""
    return [tuple(turn[0] for turn in motion.values()) for motion in elementary(hall)]


def rows_of_places(hall):
    """The rows of the places of the profile: one for each wheel and one for each pawl."""
    many = len(hall.wheels)
    _, pawls = spaces.rows_of(hall.parts, hall.wheels)
    return [[int(at == place) for at in range(many)] for place in range(many)] + pawls


def by_all_subsets(hall):
    """The elementary motions: whatever set of places is 0, what is left if it is but one way."""
    many = len(hall.wheels)
    ties, pawls = spaces.rows_of(hall.parts, hall.wheels)
    places, found = rows_of_places(hall), set()
    for size in range(len(places) + 1):
        for chosen in combinations(places, size):
            space = spaces.null_space([*ties, *chosen], many)
            if len(space) == 1:
                for sign in (1, -1):
                    way = spaces.primitive([sign * turn for turn in space[0]])
                    if all(spaces.dot(pawl, way) >= 0 for pawl in pawls):
                        found.add(way)
    return sorted(found)


def by_directions(hall):
    """The elementary motions: the rays of the motions in which each wheel turns one way only."""
    many = len(hall.wheels)
    ties, pawls = spaces.rows_of(hall.parts, hall.wheels)
    found = set()
    for signs in product((1, -1), repeat=many):
        sides = [[sign * (at == place) for at in range(many)] for place, sign in enumerate(signs)]
        _, rays = spaces.generators(ties, pawls + sides, many)
        found |= set(rays)
    return sorted(found)


def small_hall(draw, most=9):
    """A hall in which wheels and pawls are at most that many."""
    wheels = draw.randint(1, 8)
    pawls = draw.randint(0, min(5, most - wheels))
    return drawing.hall(draw, wheels, draw.randint(0, 5), pawls)


def some_motion(draw, known, wheels):
    """The sum of some elementary motions, or what is nearly one: then all may be 0."""
    turns = {name: Fraction(0) for name in wheels}
    for motion in draw.choices(known, k=draw.randint(0, 4)) if known else []:
        times = drawing.fraction(draw, 0, 4, 3)
        turns = {name: turns[name] + times * right.number(motion[name]) for name in wheels}
    return {name: right.written(turn) for name, turn in turns.items()}


class InterfaceTest(unittest.TestCase):
    def test_names_and_arguments(self):
        for function, told in (
            (elementary, "(hall)"),
            (parted, "(hall, turns)"),
            (parted_shown, "(hall, turns, told)"),
        ):
            self.assertEqual(str(inspect.signature(function)), told)
            self.assertEqual(function.__module__, elementary_file.__name__)
        self.assertTrue(inspect.isgeneratorfunction(elementary))
        self.assertTrue(inspect.isgenerator(elementary(Hall("a"))))

    def test_arguments_by_name(self):
        hall = Hall.read("wheels a; ratchet a")
        self.assertEqual(list(elementary(hall=hall)), [{"a": ONE}])
        self.assertEqual(parted(turns={"a": TWO}, hall=hall), [(TWO, {"a": ONE})])
        told = [(TWO, {"a": ONE})]
        self.assertIs(parted_shown(told=told, turns={"a": TWO}, hall=hall), True)


class ElementaryTest(unittest.TestCase):
    def test_examples(self):
        for text, expected in ELEMENTARY:
            hall = Hall.read(text)
            self.assertEqual(turns_of(hall), expected, text)
            self.assertEqual(by_all_subsets(hall), expected, text)
            self.assertEqual(hall.text, text)

    def test_what_is_yielded(self):
        for text, _ in ELEMENTARY:
            hall = Hall.read(text)
            motions = list(elementary(hall))
            self.assertTrue(right.plain(motions))
            self.assertEqual(len({id(motion) for motion in motions}), len(motions))
            for motion in motions:
                self.assertEqual(list(motion), list(hall.wheels))
                self.assertIsNone(broken(hall, motion))
                self.assertTrue(all(bottom == 1 for _, bottom in motion.values()))
            for motion in elementary(hall):
                motion.clear()
            self.assertEqual(list(elementary(Hall.read(text))), motions)

    def test_drawn(self):
        many = 0
        for seed in range(50):
            draw = random.Random(seed)
            hall = small_hall(draw)
            expected = by_all_subsets(hall)
            self.assertEqual(turns_of(hall), expected, hall.text)
            many += len(expected)
        self.assertGreater(many, 150)

    def test_drawn_by_directions(self):
        for seed in range(60):
            draw = random.Random(seed)
            wheels = draw.randint(1, 4)
            hall = drawing.hall(draw, wheels, draw.randint(0, 2), draw.randint(0, 3))
            self.assertEqual(turns_of(hall), by_directions(hall), hall.text)

    def test_each_is_elementary(self):
        for seed in range(60):
            hall = small_hall(random.Random(seed))
            many = len(hall.wheels)
            ties, _ = spaces.rows_of(hall.parts, hall.wheels)
            places = rows_of_places(hall)
            for turns in turns_of(hall):
                self.assertTrue(any(turns))
                self.assertEqual(spaces.primitive(turns), turns)
                still = [place for place in places if spaces.dot(place, turns) == 0]
                # Where it rests, every motion that rests, too, is a multiple of it.
                self.assertEqual(len(spaces.null_space(ties + still, many)), 1)

    def test_nine_wheels_and_pawls(self):
        hall = Hall.read(
            "wheels a b c d e f; differential a b c 3 5; differential d e f 7 2;"
            " freewheel c f; freewheel a d; ratchet b"
        )
        self.assertEqual(turns_of(hall), by_all_subsets(hall))
        wide = Hall.read(
            "wheels a b c d e f g h; differential a b c 3 5; differential d e f 7 2;"
            " differential g h a 11 13; freewheel c f"
        )
        self.assertEqual(turns_of(wide), by_all_subsets(wide))

    def test_great_teeth(self):
        draw = random.Random(4)
        hall = drawing.hall(draw, 6, 0, 2)
        for part in drawing.hall(draw, 6, 3, 0, teeth=10**200).parts:
            hall.put(part)
        for turns in turns_of(hall):
            self.assertIsNone(broken(hall, {name: (turn, 1) for name, turn in zip("abcdef", turns)}))
        self.assertEqual(turns_of(hall), by_all_subsets(hall))

    def test_halls_from_other_answers(self):
        hall = built(Form.read("form a b c; tie 2 -3 5; pawl 0 1 -1"))
        self.assertEqual(turns_of(hall), by_all_subsets(hall))
        seen = seen_from(Hall.read("wheels a b c; chain a b 2 3; ratchet c"), "b", "floor")
        self.assertEqual(turns_of(seen), by_all_subsets(seen))


class PartedCase(unittest.TestCase):
    def assert_no_turns(self, function, *rest):
        hall = Hall.read("wheels a b; freewheel a b")
        wrong = [value for value in right.JUNK if not right.is_motion(hall, value)]
        for turns in wrong + [
            {"a": ONE}, {"a": ONE, "b": ONE, "c": ONE}, {"a": ONE, "b": TWO}, {"a": ONE, "b": 1},
            {"a": ONE, "b": (0, 2)}, {"a": (True, 1), "b": ZERO}, [ONE, ONE], Brake("a"),
            {"a": LESS, "b": ZERO}, {"a": ONE, "c": ONE}, {"a": ONE, None: ONE},
        ]:
            with self.assertRaises(NoTurns) as caught:
                function(hall, turns, *rest)
            self.assertIs(caught.exception.turns, turns)
        self.assertEqual(hall.text, "wheels a b; freewheel a b")


class PartedTest(PartedCase):
    def test_examples(self):
        for text, turns, expected in (
            ("wheels", {}, []),
            ("wheels a; brake a", {"a": ZERO}, []),
            ("wheels a", {"a": ZERO}, []),
            ("wheels a", {"a": (7, 3)}, [((7, 3), {"a": ONE})]),
            ("wheels a", {"a": (-7, 3)}, [((7, 3), {"a": LESS})]),
            ("wheels a b; chain a b 2 3", {"a": HALF, "b": (1, 3)}, [((1, 6), {"a": (3, 1), "b": TWO})]),
            (
                "wheels a b; freewheel a b; ratchet b",
                {"b": ONE, "a": (3, 1)},
                [(TWO, {"a": ONE, "b": ZERO}), (ONE, {"a": ONE, "b": ONE})],
            ),
            (
                # Without the pawl the motion would be two motions of one wheel each.
                "wheels a b; freewheel a b",
                {"a": LESS, "b": (-3, 1)},
                [(ONE, {"a": LESS, "b": LESS}), (TWO, {"a": ZERO, "b": LESS})],
            ),
            ("wheels a b", {"a": LESS, "b": ONE}, [(ONE, {"a": LESS, "b": ZERO}), (ONE, {"a": ZERO, "b": ONE})]),
        ):
            hall, before = Hall.read(text), dict(turns)
            told = parted(hall, turns)
            self.assertEqual(sorted(told, key=str), sorted(expected, key=str), (text, turns))
            self.assert_parted(hall, turns)
            self.assertEqual((hall.text, turns), (text, before))

    def test_drawn(self):
        sizes = []
        for seed in range(200):
            draw = random.Random(seed)
            hall = small_hall(draw)
            known = list(elementary(hall))
            turns = some_motion(draw, known, hall.wheels)
            sizes.append(len(self.assert_parted(hall, turns)))
        self.assertTrue(sizes.count(0) > 5 and max(sizes) >= 4, sizes)

    def test_the_motion_without_turns(self):
        for seed in range(40):
            hall = small_hall(random.Random(seed))
            turns = {name: ZERO for name in hall.wheels}
            self.assertEqual(parted(hall, turns), [])
            self.assertIs(parted_shown(hall, turns, []), True)

    def test_great_numbers(self):
        great = 10**990
        hall = Hall.read("wheels a b c; differential a b c 999999 1; freewheel a b; ratchet b")
        turns = {"a": (great, 7), "b": (1, great)}
        amount = (999999 * right.number(turns["a"]) + right.number(turns["b"])) / 10**6
        self.assert_parted(hall, {**turns, "c": right.written(amount)})

    def test_elementary_motions_themselves(self):
        for seed in range(40):
            hall = small_hall(random.Random(seed))
            for motion in elementary(hall):
                self.assertEqual(parted(hall, motion), [(ONE, motion)])

    def assert_parted(self, hall, turns):
        told = parted(hall, turns)
        known = list(elementary(hall))
        self.assertTrue(right.parted(hall, turns, told, known), (hall.text, turns, told))
        self.assertIs(parted_shown(hall, turns, told), True)
        self.assertTrue(right.plain(told))
        for _, motion in told:
            self.assertEqual(list(motion), list(hall.wheels))
        again = parted(Hall.read(hall.text), dict(reversed(turns.items())))
        self.assertEqual(again, told)
        held = right.holders(again)
        self.assertEqual(len({id(one) for one in held}), len(held))
        for one in held:
            one.clear()
        self.assertEqual(parted(hall, turns), told)
        return told

    def test_no_turns(self):
        self.assert_no_turns(parted)


class PartedShownTest(PartedCase):
    def test_right_and_bent_lists(self):
        many = {True: 0, False: 0}
        for seed in range(60):
            draw = random.Random(seed)
            hall = drawing.hall(draw, draw.randint(1, 5), draw.randint(0, 2), draw.randint(0, 3))
            known = list(elementary(hall))
            turns = some_motion(draw, known, hall.wheels)
            told = parted(hall, turns)
            for bent in [told, told[::-1], *right.bent(told), *swapped(told, known)]:
                answer = right.parted(hall, turns, bent, known)
                many[answer] += 1
                self.assertIs(parted_shown(hall, turns, bent), answer, (hall.text, turns, bent))
        self.assertTrue(many[True] > 100 and many[False] > 2000, many)

    def test_each_condition_alone(self):
        hall = Hall.read("wheels a b; freewheel a b; ratchet b")
        turns = {"a": (3, 1), "b": ONE}
        one, both = {"a": ONE, "b": ZERO}, {"a": ONE, "b": ONE}
        for told, answer in (
            ([(TWO, one), (ONE, both)], True),
            ([(ONE, both), (TWO, one)], True),
            ([(ONE, {"b": ONE, "a": ONE}), (TWO, one)], True),
            ([(ONE, one), (ONE, one), (ONE, both)], False),
            ([(TWO, one)], False),
            ([(ONE, turns)], False),
            ([(TWO, one), (HALF, {"a": TWO, "b": TWO})], False),
            ([((4, 2), one), (ONE, both)], False),
            ([(2, one), (1, both)], False),
            ([(TWO, one), (ONE, both), (ZERO, both)], False),
            ([[TWO, one], (ONE, both)], False),
            ([(TWO, one, ONE), (ONE, both)], False),
            ([(one, TWO), (both, ONE)], False),
            (((TWO, one), (ONE, both)), False),
            ({TWO: one}, False),
            ([], False),
            ([(TWO, {"a": (True, 1), "b": ZERO}), (ONE, both)], False),
            ([((True, 1), both), (TWO, one)], False),
        ):
            self.assertIs(parted_shown(hall, turns, told), answer, told)

    def test_signs_and_places(self):
        # The sums are right, but one motion turns a wheel against the whole, or a resting one.
        hall = Hall("a", "b")
        for turns, told in (
            ({"a": ONE, "b": ZERO}, [(TWO, {"a": ONE, "b": ZERO}), (ONE, {"a": LESS, "b": ZERO})]),
            (
                {"a": ONE, "b": ZERO},
                [(ONE, {"a": ONE, "b": ZERO}), (ONE, {"a": ZERO, "b": ONE}), (ONE, {"a": ZERO, "b": LESS})],
            ),
        ):
            self.assertIs(parted_shown(hall, turns, told), False)
        # Here a pawl that does not click in the whole would click in both motions.
        hall = Hall.read("wheels a b; freewheel a b; ratchet b; ratchet a")
        turns = {"a": ONE, "b": ONE}
        self.assertIs(parted_shown(hall, turns, [(ONE, {"a": ONE, "b": ONE})]), True)
        hall = Hall.read("wheels a b c; differential a b c 1 1")
        turns = {"a": ONE, "b": ONE, "c": ONE}
        whole = [(HALF, {"a": TWO, "b": ZERO, "c": ONE}), (HALF, {"a": ZERO, "b": TWO, "c": ONE})]
        self.assertIs(parted_shown(hall, turns, whole), True)
        more = [(ONE, {"a": TWO, "b": ZERO, "c": ONE}), (ONE, {"a": LESS, "b": ONE, "c": ZERO})]
        self.assertIs(parted_shown(hall, turns, more), False)

    def test_more_motions_than_places(self):
        # A cube: t is ahead of x, y and z, so all eight corners are elementary, but the whole
        # has only seven places, four turns and three sums of pawls, beside the wheel that rests.
        hall = Hall.read(
            "wheels s t x y z; freewheel t x; freewheel t y; freewheel t z; brake s"
        )
        corners = [
            {"s": ZERO, "t": ONE, "x": (x, 1), "y": (y, 1), "z": (z, 1)}
            for x, y, z in product((0, 1), repeat=3)
        ]
        known = list(elementary(hall))
        for corner in corners:
            self.assertIn(corner, known)
        told = [(ONE, corner) for corner in corners]
        turns = {"s": ZERO, "t": (8, 1), "x": (4, 1), "y": (4, 1), "z": (4, 1)}
        self.assertIs(parted_shown(hall, turns, told), False)
        self.assertLessEqual(len(parted(hall, turns)), 7)
        # A factor of 0 adds nothing, but is no positive one.
        ends = [told[0], told[-1]]
        turns_of_ends = {"s": ZERO, "t": TWO, "x": ONE, "y": ONE, "z": ONE}
        self.assertIs(parted_shown(hall, turns_of_ends, ends), True)
        self.assertIs(parted_shown(hall, turns_of_ends, [*ends, (ZERO, corners[1])]), False)
        # Without any one of them there are not too many.
        for at, (_, corner) in enumerate(told):
            less = {name: right.written(right.number(turns[name]) - corner[name][0]) for name in turns}
            self.assertIs(parted_shown(hall, less, told[:at] + told[at + 1 :]), True)

    def test_values_of_every_kind(self):
        for text, _ in ELEMENTARY:
            hall = Hall.read(text)
            known = list(elementary(hall))
            for turns in [{name: ZERO for name in hall.wheels}, *known]:
                for told in right.JUNK + [Brake("a"), [Brake("a")], [(ONE, Brake("a"))], [None]]:
                    answer = right.parted(hall, turns, told, known)
                    self.assertIs(parted_shown(hall, turns, told), answer, (text, turns, told))

    def test_no_turns(self):
        self.assert_no_turns(parted_shown, [])
        self.assert_no_turns(parted_shown, None)


def swapped(told, known):
    """Lists in which a motion is another elementary one, or one more stands behind."""
    for at, (factor, _) in enumerate(told):
        for motion in known:
            yield told[:at] + [(factor, motion)] + told[at + 1 :]
    for motion in known:
        yield told + [(ONE, motion)]


if __name__ == "__main__":
    unittest.main()
