"""Points [8] (tried) and [10] to [13], loads and forces, and what point [2] says of them."""

import copy
import inspect
import unittest

import right
from pawlhall import loads
from pawlhall.errors import NoLoad, NoPart, NoWheel
from pawlhall.halls import Hall
from pawlhall.loads import (
    bearing,
    bearing_shown,
    held_by,
    held_shown,
    shows,
    tried,
    verdict,
)
from pawlhall.parts import Brake, Chain, Freewheel, Mesh, Ratchet
from right import JUNK, holders, plain

ONE, TWO, HALF, ZERO = (1, 1), (2, 1), (1, 2), (0, 1)
LESS, LESS_TWO, LESS_HALF = (-1, 1), (-2, 1), (-1, 2)

# Halls with loads that drop.
DROPS = [
    ("wheels a", {"a": ONE}),
    ("wheels a", {"a": LESS_HALF}),
    ("wheels a; ratchet a", {"a": HALF}),
    ("wheels a; ratchet a backward", {"a": LESS}),
    ("wheels a b; brake a", {"a": ONE, "b": (1, 10**900)}),
    ("wheels a b; mesh a b 1 2", {"a": ONE}),
    ("wheels a b; mesh a b 1 2", {"a": ONE, "b": ONE}),
    ("wheels a b; chain a b 1 2", {"a": ONE, "b": LESS}),
    ("wheels a b; freewheel a b", {"a": ONE, "b": LESS}),
    ("wheels a b; freewheel a b", {"a": ONE, "b": ONE}),
    ("wheels a b; freewheel a b; freewheel b a", {"a": ONE, "b": (-3, 4)}),
    ("wheels a b c; freewheel a b; freewheel b c; freewheel c a", {"a": ONE, "b": LESS_TWO}),
    ("wheels a b c; differential a b c 1 1; brake a", {"c": ONE}),
    ("wheels a b c; differential a b c 2 1; ratchet c; ratchet a backward", {"b": HALF}),
    ("wheels a b c d; chain a b 3 2; mesh b c 1 7; freewheel d c", {"a": HALF, "d": ONE}),
]

# Halls with loads that are held.
HOLDS = [
    ("wheels", {}),
    ("wheels a", {}),
    ("wheels a", {"a": ZERO}),
    ("wheels a b; freewheel a b", {}),
    ("wheels a; brake a", {"a": (-7, 3)}),
    ("wheels a; ratchet a", {"a": LESS}),
    ("wheels a; ratchet a", {"a": ZERO}),
    ("wheels a; ratchet a backward", {"a": (10**900, 7)}),
    ("wheels a; ratchet a; ratchet a", {"a": LESS}),
    ("wheels a; ratchet a; ratchet a backward", {"a": (3, 8)}),
    ("wheels a; ratchet a; ratchet a backward; brake a", {"a": (3, 8)}),
    ("wheels a b; mesh a b 1 2", {"a": ONE, "b": TWO}),
    ("wheels a b; chain a b 1 2", {"a": ONE, "b": LESS_TWO}),
    ("wheels a b; chain a b 1 2; chain a b 2 4", {"a": ONE, "b": LESS_TWO}),
    ("wheels a b; chain a b 1 2; ratchet a", {"a": LESS, "b": ONE}),
    ("wheels a b; freewheel a b", {"a": LESS, "b": ONE}),
    ("wheels a b; freewheel a b; freewheel a b", {"a": LESS_HALF, "b": HALF}),
    ("wheels a b; freewheel a b; freewheel b a", {"a": LESS_HALF, "b": HALF}),
    ("wheels a b c; freewheel a b; freewheel b c; freewheel c a", {"a": ONE, "b": LESS}),
    ("wheels a b c; freewheel a b; freewheel b c; freewheel c a; ratchet b", {"a": LESS}),
    ("wheels a b c; differential a b c 1 1; brake a", {"b": ONE, "c": LESS_TWO}),
    ("wheels a b c; differential a b c 2 1; ratchet a; ratchet b", {"c": LESS}),
    ("wheels a b; freewheel a b; brake b; ratchet a", {"a": LESS, "b": (5, 2)}),
    ("wheels a b c d; chain a b 3 2; mesh b c 1 7; brake c; ratchet d", {"a": ONE, "d": LESS}),
]

ALL = DROPS + HOLDS


def no_loads(hall):
    """Things that are no loads of the hall; it has a wheel a."""
    bad = [value for value in JUNK if value != {}]
    bad += [{"a": value} for value in (None, 1, True, "1", (1,), (2, 4), (1, 0), (True, 1), [1, 1])]
    bad += [{"a": ONE, "zz": ZERO}, {"a": ONE, 1: ZERO}, {"a": ONE, None: ZERO}, {"A": ONE}]
    bad += [{"a": ONE, ("a",): ZERO}, {True: ONE}, [], ["a"], ("a",), "a", hall.parts, Brake("a")]
    return bad + [list({"a": ONE}.items()), {"a": (1, -1)}, {"a": (0, 2)}, {"a": {}}]


class LoadsCase(unittest.TestCase):
    def assert_new(self, function, *args, **more):
        """The same answer again after the first one is emptied; no two lists are one."""
        told = function(*args, **more)
        self.assertTrue(plain(told))
        before = copy.deepcopy(told)
        found = holders(told)
        self.assertEqual(len({id(one) for one in found}), len(found))
        for one in found:
            one.clear()
        again = function(*args, **more)
        self.assertEqual(again, before)
        return again

    def assert_unchanged(self, hall, text, load, before):
        self.assertEqual(hall.text, text)
        self.assertEqual((load, list(load)), (before, list(before)))

    def assert_no_load(self, function, *rest):
        hall = Hall.read("wheels a b; ratchet a")
        for load in no_loads(hall):
            with self.assertRaises(NoLoad) as caught:
                function(hall, load, *rest)
            self.assertIs(caught.exception.load, load)
        with self.assertRaises(NoLoad):
            function(Hall(), {"a": ZERO}, *rest)


class InterfaceTest(unittest.TestCase):
    def test_names_and_arguments(self):
        for function, told in (
            (verdict, "(hall, load)"),
            (tried, "(hall, *parts, load)"),
            (bearing, "(hall, load)"),
            (held_by, "(hall, load, wheel)"),
            (shows, "(hall, load, told)"),
            (bearing_shown, "(hall, load, told)"),
            (held_shown, "(hall, load, wheel, told)"),
        ):
            self.assertEqual(str(inspect.signature(function)), told)
            self.assertEqual(function.__module__, loads.__name__)

    def test_arguments_by_name(self):
        hall, load = Hall("a"), {}
        self.assertEqual(verdict(load=load, hall=hall), ("holds", []))
        self.assertEqual(tried(hall=hall, load=load), ("holds", []))
        self.assertEqual(bearing(load=load, hall=hall), ("holds", {"a": ZERO}, []))
        told = held_by(wheel="a", load=load, hall=hall)
        self.assertIs(shows(told=("holds", []), load=load, hall=hall), True)
        self.assertIs(bearing_shown(told=("holds", {"a": ONE}, []), load=load, hall=hall), True)
        self.assertIs(held_shown(told=told, wheel="a", load=load, hall=hall), True)


class VerdictTest(LoadsCase):
    def test_examples(self):
        for rows, word in ((DROPS, "drops"), (HOLDS, "holds")):
            for text, load in rows:
                hall, before = Hall.read(text), dict(load)
                told = self.assert_new(verdict, hall, load)
                self.assertEqual((len(told), told[0]), (2, word), (text, load))
                self.assertTrue(right.verdict(hall, load, told), (text, load, told))
                if word == "drops":
                    self.assertEqual(list(told[1]), list(hall.wheels))
                self.assertEqual(verdict(Hall.read(text), dict(reversed(load.items()))), told)
                self.assert_unchanged(hall, text, load, before)

    def test_the_only_forces(self):
        for text, load, forces in (
            ("wheels a; ratchet a", {"a": LESS}, [ONE]),
            ("wheels a; brake a", {"a": (-7, 3)}, [(7, 3)]),
            ("wheels a; brake a", {}, [ZERO]),
            ("wheels a b; mesh a b 1 2", {"a": ONE, "b": TWO}, [LESS]),
            ("wheels a b; mesh a b 3 6", {"a": ONE, "b": TWO}, [(-1, 3)]),
            ("wheels a b; freewheel b a; brake b", {"a": HALF}, [HALF, LESS_HALF]),
            ("wheels a b; brake b; freewheel b a", {"a": HALF}, [LESS_HALF, HALF]),
        ):
            self.assertEqual(verdict(Hall.read(text), load), ("holds", forces))

    def test_no_load(self):
        self.assert_no_load(verdict)


class ShowsTest(LoadsCase):
    def test_right_and_bent_answers(self):
        many = {True: 0, False: 0}
        for text, load in ALL:
            hall, before = Hall.read(text), dict(load)
            told = verdict(hall, load)
            self.assertIs(shows(hall, load, told), True)
            for other in right.bent(told):
                answer = right.verdict(hall, load, other)
                many[answer] += 1
                self.assertIs(shows(hall, load, other), answer, (text, load, other))
            self.assert_unchanged(hall, text, load, before)
        self.assertTrue(many[True] > 30 and many[False] > 1000, many)

    def test_other_right_answers(self):
        hall = Hall.read("wheels a b; freewheel a b; ratchet a; ratchet b")
        for load, told in (
            ({"a": ONE, "b": LESS}, ("drops", {"b": ONE, "a": (9, 8)})),
            ({"a": LESS_TWO, "b": LESS}, ("holds", [ZERO, TWO, ONE])),
            ({"a": LESS_TWO, "b": LESS}, ("holds", [ONE, ONE, TWO])),
            ({"a": LESS_TWO, "b": LESS}, ("holds", [TWO, ZERO, (3, 1)])),
        ):
            self.assertIs(shows(hall, load, told), True)

    def test_wrong_answers(self):
        hall = Hall.read("wheels a b; freewheel a b; ratchet a; ratchet b")
        load, other = {"a": ONE, "b": LESS}, {"a": LESS_TWO, "b": LESS}
        for wrong, told in (
            (load, ("drops", {"a": ONE, "b": ONE})),
            (load, ("drops", {"a": ONE, "b": TWO})),
            (load, ("drops", {"a": ONE, "b": LESS})),
            (load, ("drops", {"a": ONE})),
            (load, ("drops", {"a": TWO, "b": ONE, "c": ZERO})),
            (load, ("holds", {"a": TWO, "b": ONE})),
            (load, ("holds", [LESS, ZERO, ZERO])),
            (load, ["drops", {"a": TWO, "b": ONE}]),
            (load, ("drops", {"a": TWO, "b": ONE}, [])),
            (load, ("drops", {"a": (4, 2), "b": ONE})),
            (load, ("drops", {"a": 2, "b": 1})),
            (other, ("holds", [ZERO, TWO])),
            (other, ("holds", [ZERO, TWO, ONE, ZERO])),
            (other, ("holds", [ZERO, TWO, TWO])),
            (other, ("holds", [(3, 1), LESS, (4, 1)])),
            (other, ("holds", (ZERO, TWO, ONE))),
            (other, ("holds", [(0, 2), TWO, ONE])),
            (other, ("drops", [ZERO, TWO, ONE])),
            (other, ("held", [ZERO, TWO, ONE])),
        ):
            self.assertIs(shows(hall, wrong, told), False)

    def test_values_of_every_kind(self):
        for text, load in ALL:
            hall = Hall.read(text)
            for told in JUNK:
                answer = right.verdict(hall, load, told)
                self.assertIs(shows(hall, load, told), answer, (text, load, told))

    def test_no_load(self):
        self.assert_no_load(shows, ("holds", [ZERO]))
        self.assert_no_load(shows, None)


class TriedTest(LoadsCase):
    def test_no_part_to_three_parts(self):
        text = "wheels a b c; chain a b 1 2"
        hall, load = Hall.read(text), {"a": ONE, "c": LESS}
        brake, pawl, mesh = Brake("b"), Ratchet("c"), Mesh("b", "c", 3, 2)
        for parts, word in (
            ((), "drops"),
            ((brake,), "drops"),
            ((pawl,), "drops"),
            ((brake, pawl), "holds"),
            ((pawl, brake), "holds"),
            ((brake, brake), "drops"),
            ((mesh,), "drops"),
            ((mesh, pawl), "holds"),
            ((mesh, Ratchet("a", backward=True), brake), "holds"),
            ((brake, brake, pawl), "holds"),
            ((pawl, pawl, brake), "holds"),
        ):
            told = self.assert_new(tried, hall, *parts, load=load)
            whole = Hall.read("; ".join([text] + [part.text for part in parts]))
            self.assertEqual(told[0], word)
            self.assertTrue(right.verdict(whole, load, told), parts)
            self.assertEqual(told, verdict(whole, load))
            self.assertEqual((hall.text, len(hall)), (text, 1))

    def test_the_numbers_of_the_forces(self):
        hall = Hall.read("wheels a b; brake b")
        told = tried(hall, Ratchet("a"), Brake("a"), load={"b": ONE, "a": LESS})
        self.assertEqual((told[0], len(told[1]), told[1][0]), ("holds", 3, LESS))

    def test_errors(self):
        text = "wheels a b; brake b"
        hall, brake = Hall.read(text), Brake("a")
        for value in JUNK + ["brake a", Brake]:
            for parts in ((value,), (brake, value), (brake, brake, value), (value, Brake("z"))):
                with self.assertRaises(NoPart) as caught:
                    tried(hall, *parts, load={"a": ONE})
                self.assertIs(caught.exception.part, value)
                self.assertEqual(hall.text, text)
        for parts, name in (
            ((Brake("z"),), "z"),
            ((brake, Freewheel("a", "y")), "y"),
            ((Chain("x", "z"), None), "x"),
        ):
            with self.assertRaises(NoWheel) as caught:
                tried(hall, *parts, load=None)
            self.assertEqual(caught.exception.name, name)
            self.assertEqual(hall.text, text)
        with self.assertRaises(NoPart):
            tried(hall, None, Brake("z"), load=None)
        for parts in ((), (brake,), (brake, brake), (brake, brake, brake)):
            for load in no_loads(hall):
                with self.assertRaises(NoLoad) as caught:
                    tried(hall, *parts, load=load)
                self.assertIs(caught.exception.load, load)
                self.assertEqual(hall.text, text)


# For each hall and load that it holds: the numbers of the pawls that bear.
BEARING = [
    ("wheels", {}, []),
    ("wheels a; ratchet a", {}, []),
    ("wheels a; ratchet a", {"a": LESS}, [0]),
    ("wheels a; ratchet a; ratchet a", {}, []),
    ("wheels a; ratchet a; ratchet a", {"a": LESS}, [0, 1]),
    ("wheels a; ratchet a; ratchet a backward", {}, [0, 1]),
    ("wheels a; ratchet a; brake a", {}, [0]),
    ("wheels a; ratchet a; brake a; ratchet a backward", {"a": LESS}, [0, 2]),
    ("wheels a b; ratchet a; ratchet b", {"a": LESS}, [0]),
    ("wheels a b; ratchet a; ratchet b", {"b": LESS_HALF, "a": ZERO}, [1]),
    ("wheels a b; freewheel a b; ratchet b", {"a": LESS}, [0, 1]),
    ("wheels a b; freewheel a b; ratchet b", {"b": LESS}, [1]),
    ("wheels a b; freewheel a b; ratchet b", {"a": LESS_HALF, "b": HALF}, [0]),
    ("wheels a b; freewheel a b; ratchet b; ratchet a", {"a": LESS}, [0, 1, 2]),
    ("wheels a b; freewheel a b; ratchet b; ratchet a", {"b": LESS}, [1]),
    ("wheels a b; freewheel a b; freewheel a b", {"a": LESS, "b": ONE}, [0, 1]),
    ("wheels a b; freewheel a b; freewheel b a", {}, [0, 1]),
    ("wheels a b; chain a b 1 1; ratchet a; ratchet b", {"b": LESS}, [1, 2]),
    ("wheels a b; mesh a b 1 1; ratchet a; ratchet b", {"b": LESS}, [1, 2]),
    ("wheels a b c; freewheel a b; freewheel b c; freewheel c a", {}, [0, 1, 2]),
    (
        "wheels a b c; freewheel a b; freewheel b c; freewheel c a; ratchet b",
        {"a": ONE, "b": LESS},
        [0, 1, 2],
    ),
    (
        "wheels a b c d; freewheel a b; freewheel b c; freewheel c a; freewheel d a",
        {"a": ONE, "d": LESS},
        [0, 1, 2, 3],
    ),
    (
        "wheels a b c d; freewheel a b; freewheel b c; freewheel c b; freewheel d a",
        {},
        [1, 2],
    ),
    ("wheels a b c; differential a b c 1 1; ratchet a; ratchet b; ratchet c", {"c": LESS}, [1, 2, 3]),
    ("wheels a b c; differential a b c 1 1; ratchet a; ratchet b; ratchet c", {"a": LESS}, [1]),
]


class BearingTest(LoadsCase):
    def test_which_pawls_bear(self):
        for text, load, bearers in BEARING:
            hall, before = Hall.read(text), dict(load)
            told = self.assert_new(bearing, hall, load)
            self.assertEqual(len(told), 3)
            self.assertTrue(right.bearing(hall, load, told), (text, load, told))
            found = [
                number
                for number, part in enumerate(hall.parts)
                if part.is_pawl and told[2][number][0] > 0
            ]
            self.assertEqual(found, bearers, (text, load))
            self.assertEqual(list(told[1]), list(hall.wheels))
            self.assert_unchanged(hall, text, load, before)

    def test_examples(self):
        for text, load in ALL:
            hall = Hall.read(text)
            told = self.assert_new(bearing, hall, load)
            self.assertTrue(right.bearing(hall, load, told), (text, load, told))
            self.assertEqual(told[0], verdict(hall, load)[0])

    def test_a_pawl_whose_force_has_to_stay_positive(self):
        # One ratchet takes over from the other one, in any ratio of the teeth.
        for kind in ("mesh", "chain"):
            for teeth in ("1 1", "1 7", "7 1", "1 999999", "999999 1"):
                hall = Hall.read(f"wheels a b; {kind} a b {teeth}; ratchet a; ratchet b")
                for wheel in "ab":
                    for top in (-1, -7, -999999):
                        for bottom in (1, 7, 999999, 10**12):
                            load = {wheel: right.written(right.Fraction(top, bottom))}
                            told = bearing(hall, load)
                            self.assertTrue(right.bearing(hall, load, told), (hall.text, load))
                            self.assertEqual([force[0] > 0 for force in told[2][1:]], [True] * 2)

    def test_no_load(self):
        self.assert_no_load(bearing)


class BearingShownTest(LoadsCase):
    def test_right_and_bent_answers(self):
        many = {True: 0, False: 0}
        for text, load in ALL + [row[:2] for row in BEARING]:
            hall = Hall.read(text)
            told = bearing(hall, load)
            self.assertIs(bearing_shown(hall, load, told), True)
            for other in right.bent(told):
                answer = right.bearing(hall, load, other)
                many[answer] += 1
                self.assertIs(bearing_shown(hall, load, other), answer, (text, load, other))
        self.assertTrue(many[True] > 30 and many[False] > 1000, many)

    def test_each_condition_alone(self):
        hall = Hall.read("wheels a b; ratchet a; ratchet b; ratchet b")
        load = {"a": LESS}
        good = {"a": ZERO, "b": ONE}
        self.assertIs(bearing_shown(hall, load, ("holds", good, [ONE, ZERO, ZERO])), True)
        self.assertIs(
            bearing_shown(hall, load, ("holds", {"b": (7, 3), "a": ZERO}, [ONE, ZERO, ZERO])),
            True,
        )
        for motion, forces in (
            ({"a": ZERO, "b": ZERO}, [ONE, ZERO, ZERO]),  # pawls that do neither
            ({"a": ONE, "b": ONE}, [ONE, ZERO, ZERO]),  # work, and a pawl that does both
            ({"a": ZERO, "b": LESS}, [ONE, ZERO, ZERO]),  # no motion
            (good, [TWO, ZERO, ZERO]),  # no balance
            (good, [ONE, ONE, LESS]),  # a pawl that pulls
            (good, [ONE, ZERO]),
            (good, (ONE, ZERO, ZERO)),
            (list(good), [ONE, ZERO, ZERO]),
        ):
            self.assertIs(bearing_shown(hall, load, ("holds", motion, forces)), False)
        self.assertIs(bearing_shown(hall, load, ("holds", [ONE, ZERO, ZERO])), False)
        self.assertIs(bearing_shown(hall, load, ("holds", [ONE, ZERO, ZERO], good)), False)
        self.assertIs(bearing_shown(hall, load, ("drops", good, [ONE, ZERO, ZERO])), False)
        self.assertIs(bearing_shown(hall, {"b": ONE}, ("drops", good)), True)
        self.assertIs(bearing_shown(hall, {"b": ONE}, ("drops", good, [])), False)
        self.assertIs(bearing_shown(hall, {"b": ONE}, ("holds", good)), False)

    def test_values_of_every_kind(self):
        for text, load in ALL:
            hall = Hall.read(text)
            for told in JUNK:
                answer = right.bearing(hall, load, told)
                self.assertIs(bearing_shown(hall, load, told), answer, (text, load, told))

    def test_no_load(self):
        self.assert_no_load(bearing_shown, ("holds", {}, [ZERO]))
        self.assert_no_load(bearing_shown, None)


# For each hall, load and wheel: the least and the greatest torque, or None, or "never".
HELD = [
    ("wheels a", {}, "a", (ZERO, ZERO)),
    ("wheels a", {"a": HALF}, "a", (LESS_HALF, LESS_HALF)),
    ("wheels a b", {"a": ONE}, "b", "never"),
    ("wheels a b", {"a": ONE}, "a", (LESS, LESS)),
    ("wheels a b", {"a": ONE, "b": ONE}, "a", "never"),
    ("wheels a; brake a", {"a": ONE}, "a", (None, None)),
    ("wheels a b; brake a", {"b": ONE}, "a", "never"),
    ("wheels a; ratchet a", {}, "a", (None, ZERO)),
    ("wheels a; ratchet a", {"a": (2, 3)}, "a", (None, (-2, 3))),
    ("wheels a; ratchet a backward", {}, "a", (ZERO, None)),
    ("wheels a; ratchet a backward", {"a": (2, 3)}, "a", ((-2, 3), None)),
    ("wheels a; ratchet a; ratchet a backward", {"a": ONE}, "a", (None, None)),
    ("wheels a b; mesh a b 1 2", {"a": ONE}, "b", (TWO, TWO)),
    ("wheels a b; mesh a b 1 2", {"a": ONE, "b": ONE}, "b", (ONE, ONE)),
    ("wheels a b; chain a b 1 2", {"a": ONE}, "b", (LESS_TWO, LESS_TWO)),
    ("wheels a b; chain a b 3 2; ratchet a", {"a": ONE}, "b", (None, (-2, 3))),
    ("wheels a b; chain a b 3 2; ratchet b backward", {"a": ONE}, "b", ((-2, 3), None)),
    ("wheels a b; freewheel a b", {"a": LESS}, "b", (ONE, ONE)),
    ("wheels a b; freewheel a b", {"a": ONE}, "b", "never"),
    ("wheels a b; freewheel a b; ratchet b", {"a": LESS}, "b", (None, ONE)),
    ("wheels a b; freewheel a b; ratchet a", {"a": LESS}, "b", (ZERO, ONE)),
    ("wheels a b; freewheel a b; ratchet a", {"a": (-7, 2)}, "b", (ZERO, (7, 2))),
    ("wheels a b; freewheel a b; ratchet a", {}, "b", (ZERO, ZERO)),
    ("wheels a b; freewheel a b; ratchet a", {"a": ONE}, "b", "never"),
    ("wheels a b; freewheel b a; ratchet a", {"b": LESS}, "a", (None, ONE)),
    ("wheels a b; freewheel b a; ratchet a backward", {"b": LESS}, "a", (ONE, None)),
    (
        "wheels a b c; differential a b c 1 1; ratchet a; ratchet b",
        {"a": LESS, "b": (-2, 1)},
        "c",
        (None, TWO),
    ),
    (
        "wheels a b c; freewheel b a; freewheel a c",
        {"a": (5, 1), "b": LESS, "c": (3, 1)},
        "a",
        ((-7, 1), (-7, 1)),
    ),
    ("wheels a b; brake b; ratchet a; ratchet b", {"a": LESS}, "b", (None, None)),
]


class HeldByTest(LoadsCase):
    def test_both_ends_one_of_them_none_and_never(self):
        for text, load, wheel, ends in HELD:
            hall, before = Hall.read(text), dict(load)
            told = self.assert_new(held_by, hall, load, wheel)
            self.assertTrue(right.held(hall, load, wheel, told), (text, load, wheel, told))
            if ends == "never":
                self.assertEqual((len(told), told[0]), (2, "never"), (text, load, wheel))
                self.assertEqual(list(told[1]), list(hall.wheels))
            else:
                self.assertEqual(told[0], "between")
                for end, value in zip(told[1:3], ends):
                    if value is None:
                        self.assertIs(type(end), list)
                    else:
                        self.assertEqual((type(end), end[0]), (tuple, value), (text, load, wheel))
                        self.assertEqual(list(end[1]), list(hall.wheels))
                self.assertEqual(len(told[3]), len([one for one in ends if one is not None]) or 1)
            self.assert_unchanged(hall, text, load, before)

    def test_examples(self):
        for text, load in ALL:
            hall = Hall.read(text)
            for wheel in hall.wheels:
                told = held_by(hall, load, wheel)
                self.assertTrue(right.held(hall, load, wheel, told), (text, load, wheel, told))

    def test_the_load_with_the_torque_is_held_and_beyond_it_is_not(self):
        for text, load, wheel, ends in HELD:
            hall = Hall.read(text)
            for value, step in zip(ends, (-1, 1)) if ends != "never" else ():
                if value is not None:
                    inside = right.added(load, wheel, right.number(value))
                    self.assertEqual(verdict(hall, inside)[0], "holds")
                    beyond = right.added(inside, wheel, right.number((step, 10**30)))
                    self.assertEqual(verdict(hall, beyond)[0], "drops")

    def test_errors(self):
        self.assert_no_load(held_by, "a")
        self.assert_no_load(held_by, None)
        hall = Hall.read("wheels a b; ratchet a")
        for wheel in JUNK + ["A", "ab", "", Brake("a"), ["a"], ("a",), {"a": 1}, hall.wheels]:
            if wheel != "a":
                with self.assertRaises(NoWheel) as caught:
                    held_by(hall, {"a": ONE}, wheel)
                self.assertIs(caught.exception.name, wheel)
        with self.assertRaises(NoWheel):
            held_by(Hall(), {}, "a")


class HeldShownTest(LoadsCase):
    def test_right_and_bent_answers(self):
        many = {True: 0, False: 0}
        for text, load, wheel, _ in HELD:
            hall = Hall.read(text)
            told = held_by(hall, load, wheel)
            self.assertIs(held_shown(hall, load, wheel, told), True)
            for other in right.bent(told):
                answer = right.held(hall, load, wheel, other)
                many[answer] += 1
                self.assertIs(held_shown(hall, load, wheel, other), answer, (text, load, other))
        self.assertTrue(many[True] > 10 and many[False] > 2000, many)

    def test_ends_exchanged_and_forces_left_out(self):
        hall = Hall.read("wheels a b; freewheel a b; ratchet a")
        load = {"a": LESS}
        low = (ZERO, {"a": ZERO, "b": LESS})
        high = (ONE, {"a": ONE, "b": ONE})
        least, greatest = [ZERO, ONE], [ONE, ZERO]
        self.assertIs(held_shown(hall, load, "b", ("between", low, high, [least, greatest])), True)
        for told in (
            ("between", high, low, [least, greatest]),
            ("between", high, low, [greatest, least]),
            ("between", low, high, [greatest, least]),
            ("between", low, high, [least]),
            ("between", low, high, [greatest]),
            ("between", low, high, []),
            ("between", low, high, [least, greatest, greatest]),
            ("between", low, high, (least, greatest)),
            ("between", low, high, [tuple(least), greatest]),
            ("between", low, low, [least, least]),
            ("between", low, (HALF, high[1]), [least, greatest]),
            ("between", low, (ONE, {"a": TWO, "b": TWO}), [least, greatest]),
            ("between", (LESS, {"a": ONE, "b": LESS}), high, [least, greatest]),
            ("between", list(low), high, [least, greatest]),
            ("between", least, high, [least, greatest]),
            ("between", low, high),
            ("never", low[1]),
            ("never", high[1]),
        ):
            self.assertIs(held_shown(hall, load, "b", told), False, told)

    def test_values_that_no_forces_reach(self):
        # The motion alone bounds the torque; the forces show that the bound is reached.
        hall = Hall.read("wheels a b; ratchet a; freewheel a b")
        load = {"a": LESS}
        wider = (LESS, {"a": ONE, "b": LESS})
        high = (ONE, {"a": ONE, "b": ONE})
        for forces in ([ZERO, ZERO], [TWO, LESS], [ONE, ZERO]):
            told = ("between", wider, high, [forces, [ZERO, ONE]])
            self.assertIs(held_shown(hall, load, "b", told), False)

    def test_no_end(self):
        hall = Hall.read("wheels a; brake a; ratchet a")
        low, high = [ONE, ZERO], [LESS, ZERO]
        for told, answer in (
            (("between", low, high, [[LESS, ZERO]]), True),
            (("between", [ZERO, ONE], [LESS_TWO, ONE], [[LESS_TWO, ONE]]), True),
            (("between", high, low, [[LESS, ZERO]]), False),
            (("between", low, high, [[ZERO, ZERO]]), False),
            (("between", low, high, [[LESS, ZERO], [LESS, ZERO]]), False),
            (("between", low, high, []), False),
            (("between", tuple(low), high, [[LESS, ZERO]]), False),
        ):
            self.assertIs(held_shown(hall, {"a": ONE}, "a", told), answer, told)

    def test_never(self):
        hall = Hall.read("wheels a b; ratchet b")
        for told, answer in (
            (("never", {"a": ZERO, "b": ONE}), True),
            (("never", {"b": HALF, "a": ZERO}), True),
            (("never", {"a": ONE, "b": ONE}), False),
            (("never", {"a": ZERO, "b": ZERO}), False),
            (("never", {"a": ZERO, "b": LESS}), False),
            (("drops", {"a": ZERO, "b": ONE}), False),
            (("never", {"a": ZERO, "b": ONE}, []), False),
            (["never", {"a": ZERO, "b": ONE}], False),
        ):
            self.assertIs(held_shown(hall, {"b": ONE}, "a", told), answer, told)

    def test_values_of_every_kind(self):
        for text, load, wheel, _ in HELD:
            hall = Hall.read(text)
            for told in JUNK:
                answer = right.held(hall, load, wheel, told)
                self.assertIs(held_shown(hall, load, wheel, told), answer, (text, load, told))

    def test_errors(self):
        for told in (None, ("never", {})):
            self.assert_no_load(held_shown, "a", told)
            self.assert_no_load(held_shown, None, told)
        hall = Hall.read("wheels a b; ratchet a")
        for wheel in JUNK + ["A", "ab", "", Brake("a"), ["a"], ("a",), {"a": 1}]:
            if wheel != "a":
                with self.assertRaises(NoWheel) as caught:
                    held_shown(hall, {"a": ONE}, wheel, ("never", {"a": ZERO, "b": ONE}))
                self.assertIs(caught.exception.name, wheel)


if __name__ == "__main__":
    unittest.main()
