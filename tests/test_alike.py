"""Point [18]: alike and its judge."""

import inspect
import random
import unittest

import drawing
import forming
import right
from pawlhall import forms
from pawlhall.errors import NoWheel, Twice
from pawlhall.forms import Form, alike, least_form, unlike_shown
from pawlhall.halls import Hall
from pawlhall.loads import verdict
from pawlhall.motions import broken, work
from pawlhall.parts import Brake, Chain, Differential, Mesh

ONE, ZERO, LESS = (1, 1), (0, 1), (-1, 1)

ALIKE = [
    ("wheels a b c; brake c", "wheels b c; brake c", ("c", "b"), "form c b; tie 1 0"),
    ("wheels", "wheels", (), "form"),
    ("wheels", "wheels a; brake a", (), "form"),
    ("wheels a", "wheels a", (), "form a"),
    ("wheels a", "wheels b a; ratchet b", (), "form a"),
    ("wheels a b; brake b", "wheels a", ("a",), "form a"),
    ("wheels a; brake a", "wheels a; ratchet a; ratchet a backward", (), "form a; tie 1"),
    ("wheels a b; chain a b 1 2", "wheels b a; chain a b 3 6", (), "form a b; tie 1 -2"),
    ("wheels a b; chain a b 1 2", "wheels b a; chain a b 3 6", ("b", "a"), "form b a; tie 2 -1"),
    (
        "wheels a b; freewheel a b; freewheel b a; ratchet a",
        "wheels b a c; chain b a 1 1; ratchet b; ratchet a; brake c",
        ("a", "b"),
        "form a b; tie 1 -1; pawl 0 1",
    ),
    (
        "wheels a b c; mesh a b 1 1; mesh b c 1 1",
        "wheels a c",
        ("a",),
        "form a",
    ),
    (
        "wheels a b c; mesh a b 2 3; mesh b c 3 5",
        "wheels a c; chain a c 2 5",
        ("c", "a"),
        "form c a; tie 5 -2",
    ),
]

UNLIKE = [
    ("wheels a; ratchet a", "wheels a", ()),
    ("wheels a", "wheels a; ratchet a", ()),
    ("wheels a; ratchet a", "wheels a; ratchet a backward", ()),
    ("wheels a; brake a", "wheels a; ratchet a", ()),
    ("wheels a b", "wheels a b; chain a b 1 1", ()),
    ("wheels a b; mesh a b 1 1", "wheels a b; chain a b 1 1", ()),
    ("wheels a b; mesh a b 1 2", "wheels a b; mesh a b 2 1", ("b", "a")),
    ("wheels a b; chain a b 1 1", "wheels a b; freewheel a b", ("a", "b")),
    ("wheels a b c; brake b", "wheels b c; brake c", ("c", "b")),
    ("wheels a b c; differential a b c 2 3", "wheels c b a; differential a b c 3 2", ()),
    ("wheels b", "wheels a b c; brake c; chain b c 5 4; ratchet a", ("b",)),
    (
        "wheels a b c; freewheel a b; freewheel b c",
        "wheels a b c; freewheel a c",
        ("a", "b", "c"),
    ),
    ("wheels a b; freewheel a b; ratchet b", "wheels a b; ratchet a; ratchet b", ()),
]


def differing(text, other, outer):
    """Two halls, the outer wheels as passed, and the names that they stand for."""
    one, two = Hall.read(text), Hall.read(other)
    return one, two, outer, outer or one.wheels


class AlikeCase(unittest.TestCase):
    def assert_unlike(self, one, other, outer):
        texts, names = (one.text, other.text), outer or one.wheels
        told = alike(one, other, outer)
        self.assertTrue(right.unlike(one, other, names, told), (*texts, outer, told))
        self.assertTrue(right.plain(told))
        self.assertIs(unlike_shown(one, other, outer, told), True)
        _, which, motion, load, forces = told
        mover, holder = (one, other)[which], (one, other)[1 - which]
        self.assertEqual(list(motion), list(mover.wheels))
        self.assertIsNone(broken(mover, motion))
        self.assertGreater(work(load, motion)[0], 0)
        self.assertEqual(verdict(holder, load)[0], "holds")
        held = right.holders(told)
        self.assertEqual(len({id(one) for one in held}), len(held))
        for one_held in held:
            one_held.clear()
        again = alike(Hall.read(texts[0]), Hall.read(texts[1]), outer)
        self.assertTrue(right.unlike(one, other, names, again))
        self.assertEqual((one.text, other.text), texts)
        return which


class InterfaceTest(unittest.TestCase):
    def test_names_and_arguments(self):
        self.assertEqual(str(inspect.signature(alike)), "(one, other, outer=())")
        self.assertEqual(str(inspect.signature(unlike_shown)), "(one, other, outer, told)")
        for function in (alike, unlike_shown):
            self.assertEqual(function.__module__, forms.__name__)

    def test_arguments_by_name(self):
        one, other = Hall.read("wheels a b; ratchet a"), Hall("b", "a")
        told = alike(outer=("a",), other=other, one=one)
        self.assertEqual(told[:2], ("unlike", 1))
        self.assertIs(unlike_shown(told=told, outer=("a",), other=other, one=one), True)
        self.assertEqual(alike(other=other, one=one, outer=("b",))[1].text, "form b")


class AlikeTest(AlikeCase):
    def test_halls_that_are_alike(self):
        for text, other, outer, form in ALIKE:
            one, two = Hall.read(text), Hall.read(other)
            told = alike(one, two, outer)
            self.assertEqual(told, ("alike", Form.read(form)), (text, other))
            self.assertIs(type(told), tuple)
            self.assertIs(type(told[1]), Form)
            self.assertEqual((one.text, two.text), (text, other))

    def test_halls_that_are_not(self):
        which = []
        for text, other, outer in UNLIKE:
            one, two, outer, _ = differing(text, other, outer)
            which.append(self.assert_unlike(one, two, outer))
            self.assert_unlike(two, one, outer or one.wheels)
        self.assertEqual(set(which), {0, 1})
        # Only one of these halls has a motion that the other one has not.
        self.assertEqual(alike(Hall.read("wheels a; ratchet a"), Hall("a"))[:2], ("unlike", 1))
        self.assertEqual(alike(Hall("a"), Hall.read("wheels a; ratchet a"))[:2], ("unlike", 0))

    def test_drawn_halls_that_are_alike(self):
        for seed in range(80):
            draw = random.Random(seed)
            hall = drawing.any_hall(draw)
            outer = tuple(draw.sample(hall.wheels, draw.randint(1, len(hall.wheels))))
            self.assertEqual(alike(hall, hall, outer), ("alike", least_form(hall, outer)))
            for other in disguised(draw, hall):
                self.assertEqual(alike(hall, other, outer), ("alike", least_form(hall, outer)))
                self.assertEqual(alike(hall, other), ("alike", least_form(hall)))

    def test_drawn_halls_that_are_not(self):
        many = 0
        for seed in range(150):
            draw = random.Random(seed)
            one = drawing.hall(draw, draw.randint(2, 6), draw.randint(0, 3), draw.randint(0, 4))
            other = one.copy()
            if len(other) and draw.random() < 0.5:
                other.take(draw.randrange(len(other)))
            if draw.random() < 0.7:
                other.put(drawing.pawl(draw, one.wheels))
            outer = tuple(draw.sample(one.wheels, draw.randint(1, len(one.wheels))))
            outer = outer if seed % 2 else ()
            forms_are = least_form(one, outer) == least_form(other, outer)
            if forms_are:
                self.assertEqual(alike(one, other, outer), ("alike", least_form(one, outer)))
            else:
                many += 1
                self.assert_unlike(one, other, outer)
        self.assertGreater(many, 60)

    def test_errors(self):
        one, other = Hall.read("wheels a b c; brake a"), Hall("b", "d", "a")
        told = ("unlike", 0, {}, {}, [])
        asks = (
            lambda outer: alike(one, other, outer),
            lambda outer: alike(other, one, outer),
            lambda outer: unlike_shown(one, other, outer, told),
            lambda outer: unlike_shown(other, one, outer, None),
        )
        wrong = [value for value in right.JUNK if value != "a"] + ["c", "d", "e", Brake("a")]
        for ask in asks:
            for value in wrong:
                for outer in ((value,), ("b", "a", value, "e"), ("a", "a", value)):
                    with self.assertRaises(NoWheel) as caught:
                        ask(outer)
                    self.assertIs(caught.exception.name, value)
            for outer, name in ((("a", "a"), "a"), (("a", "b", "b", "a"), "b")):
                with self.assertRaises(Twice) as caught:
                    ask(outer)
                self.assertEqual(caught.exception.name, name)
        for ask in (lambda: alike(one, other), lambda: unlike_shown(one, other, (), told)):
            with self.assertRaises(NoWheel) as caught:
                ask()
            self.assertEqual(caught.exception.name, "c")
        with self.assertRaises(NoWheel) as caught:
            alike(other, one)
        self.assertEqual(caught.exception.name, "d")


def disguised(draw, hall):
    """Halls that allow the same: parts in another order, doubled, other teeth, more wheels."""
    shuffled = Hall(*hall.wheels)
    for part in draw.sample(hall.parts, len(hall.parts)):
        shuffled.put(part)
    yield shuffled
    doubled = hall.copy()
    if len(hall):
        doubled.put(draw.choice(hall.parts))
    yield doubled
    wider = hall.copy()
    wider.add_wheel("wide")
    if draw.random() < 0.5:
        wider.put(drawing.tie(draw, ("wide",), 3))
    else:
        wider.put(Chain("wide", hall.wheels[0], 2, 3))
    yield wider
    multiplied = Hall(*hall.wheels)
    for part in hall.parts:
        multiplied.put(with_more_teeth(part, draw.randint(2, 9)))
    yield multiplied


def with_more_teeth(part, times):
    if type(part) not in (Mesh, Chain, Differential):
        return part
    words = part.text.split(" ")
    teeth = [int(word) * times for word in words[-2:]]
    return type(part)(*part.wheels, *teeth)


class UnlikeShownTest(unittest.TestCase):
    def test_right_and_bent_answers(self):
        many = {True: 0, False: 0}
        for text, other, outer in UNLIKE:
            one, two, outer, names = differing(text, other, outer)
            told = alike(one, two, outer)
            for bent in right.bent(told):
                answer = right.unlike(one, two, names, bent)
                many[answer] += 1
                self.assertIs(unlike_shown(one, two, outer, bent), answer, (text, other, bent))
            self.assertEqual((one.text, two.text), (text, other))
        self.assertTrue(many[True] > 10 and many[False] > 500, many)

    def test_keys_in_any_order(self):
        one = Hall.read("wheels a b c; freewheel a b; freewheel b c")
        two = Hall.read("wheels a b c; freewheel a c")
        word, which, motion, load, forces = alike(one, two)
        turned = dict(reversed(motion.items())), dict(reversed(load.items()))
        self.assertIs(unlike_shown(one, two, (), (word, which, *turned, forces)), True)

    def test_each_condition_alone(self):
        one, two = Hall.read("wheels a b; ratchet a"), Hall.read("wheels b a c; brake c; brake a")
        motion, load, forces = {"a": ONE, "b": ZERO}, {"a": ONE}, [ZERO, LESS]
        outer = ("a", "b")
        self.assertIs(unlike_shown(one, two, outer, ("unlike", 0, motion, load, forces)), True)
        self.assertIs(unlike_shown(one, two, (), ("unlike", 0, motion, load, forces)), True)
        self.assertIs(
            unlike_shown(one, two, ("a",), ("unlike", 0, motion, {**load, "b": ZERO}, forces)),
            False,
        )
        for told in (
            ("unlike", 1, motion, load, forces),
            ("unlike", False, motion, load, forces),
            ("unlike", 2, motion, load, forces),
            ("unlike", -1, motion, load, forces),
            ("unlike", None, motion, load, forces),
            ("unlike", "0", motion, load, forces),
            ("alike", 0, motion, load, forces),
            ("unlike", 0, {"a": ONE}, load, forces),
            ("unlike", 0, {"a": ONE, "b": ZERO, "c": ZERO}, load, forces),
            ("unlike", 0, {"a": LESS, "b": ZERO}, load, forces),
            ("unlike", 0, {"a": ZERO, "b": ZERO}, load, forces),
            ("unlike", 0, motion, {}, forces),
            ("unlike", 0, motion, {"a": ONE, "c": ONE}, [LESS, LESS]),
            ("unlike", 0, motion, {"a": LESS}, [ZERO, ONE]),
            ("unlike", 0, motion, load, [ZERO, ONE]),
            ("unlike", 0, motion, load, [LESS]),
            ("unlike", 0, motion, load, (ZERO, LESS)),
            ("unlike", 0, motion, load),
            ("unlike", 0, motion, load, forces, None),
            ["unlike", 0, motion, load, forces],
        ):
            self.assertIs(unlike_shown(one, two, outer, told), False, told)
        self.assertIs(
            unlike_shown(two, one, outer, ("unlike", True, motion, load, forces)), False
        )
        self.assertIs(unlike_shown(two, one, outer, ("unlike", 1, motion, load, forces)), True)

    def test_values_of_every_kind(self):
        for text, other, outer in UNLIKE:
            one, two, outer, names = differing(text, other, outer)
            for told in right.JUNK + [Brake("a"), alike(one, one), ("alike", least_form(one))]:
                self.assertIs(unlike_shown(one, two, outer, told), False, (text, other, told))

    def test_halls_that_are_alike_have_no_such_answer(self):
        one = Hall.read("wheels a; ratchet a")
        for told in (
            ("unlike", 0, {"a": ONE}, {"a": ONE}, [ONE]),
            ("unlike", 0, {"a": LESS}, {"a": LESS}, [ONE]),
            ("unlike", 1, {"a": ZERO}, {}, [ZERO]),
        ):
            self.assertIs(unlike_shown(one, one, (), told), False)
        self.assertIs(unlike_shown(Hall(), Hall("a"), (), ("unlike", 0, {}, {}, [])), False)


class SmallestFormsSeparateTest(AlikeCase):
    def test_a_load_of_the_one_drops_in_the_other(self):
        # The main promise [3]: equal forms, or a motion and a load that separate the halls.
        for seed in range(60):
            draw = random.Random(seed)
            names = drawing.names(4)
            halls = [drawing.hall(draw, 4, draw.randint(0, 2), draw.randint(0, 3)) for _ in range(2)]
            told = alike(*halls)
            equal = least_form(halls[0]) == least_form(halls[1])
            self.assertEqual(told[0], "alike" if equal else "unlike")
            if not equal:
                self.assert_unlike(*halls, ())
            for one, other in (halls, halls[::-1]):
                form = least_form(other)
                stays = all(
                    verdict(one, load)[0] == "holds" for load in forming.loads_against(form)
                )
                ways = forming.ways_of(least_form(one))
                fits = all(form.allows(*way) for way in ways)
                self.assertEqual(stays, fits, (one.text, other.text))
            self.assertEqual(halls[0].wheels, tuple(names))


if __name__ == "__main__":
    unittest.main()
