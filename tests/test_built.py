"""Points [19] and [20]: built, opposite and replaced."""

import inspect
import random
import unittest

import drawing
import forming
import right
import spaces
from pawlhall import forms
from pawlhall.errors import NoPart, NoWheel, Twice
from pawlhall.forms import Form, alike, built, least_form, opposite, replaced
from pawlhall.halls import Hall
from pawlhall.loads import verdict
from pawlhall.parts import Brake, Chain, Differential, Freewheel, Mesh, Ratchet
from pawlhall.wheels import seen_from, state_of
from pawlhall.wishes import driven

FORMS = [
    "form",
    "form a",
    "form a; tie 1",
    "form a; pawl 1",
    "form a; pawl -1",
    "form a b; tie 1 1",
    "form a b; tie 2 -3",
    "form b a; pawl 1 -1",
    "form b a; pawl -1 1",
    "form b a; pawl 2 3",
    "form b a; pawl -2 3",
    "form b a; pawl -2 -3",
    "form b a; pawl 3 -2",
    "form a b c; tie 1 1 1",
    "form a b c; tie 1 1 -2",
    "form a b c; tie 1 -1 1",
    "form a b c; tie 2 -3 -4",
    "form a b c; tie 1 0 -999999999999",
    "form a b c; pawl 1 1 1",
    "form a b c; pawl -1 -1 -1",
    "form a b c; pawl 1 -1 1",
    "form a b c; pawl -1 1 1",
    "form a b c; pawl 1 1 -1",
    "form a b c; pawl -1 -1 1",
    "form a b c; pawl 5 -3 -2",
    "form a b c; pawl 0 -3 -2; pawl 1 0 0",
    "form a b c d; tie 1 2 3 4",
    "form a b c d; tie 1 -2 3 -4",
    "form a b c d; pawl 1 -1 1 -1",
    "form a b c d; pawl -4 3 2 -1",
    "form a b c d; tie 1 0 2 -2; tie 0 3 1 -1; pawl 0 0 -1 1",
    "form a b c d e; tie 1 2 3 4 5",
    "form a b c d e; pawl -1 1 -1 1 -1",
    "form a b c d e f; tie 1 -1 1 -1 1 -1",
    "form a b c d e f; tie 6 -5 4 -3 2 -1",
    "form a b c d e f; pawl 1 2 3 -4 -5 6",
    "form a b c d e f; pawl -999999999999 999999999998 1 2 3 4",
    "form a b c d e f; tie 1 0 0 0 0 -7; tie 0 2 0 0 1 0; tie 0 0 1 1 1 1; pawl 0 0 0 -1 2 -2",
    # Hidden wheels may not be called as the wheels of the form are.
    "form ha hb hc hd; pawl 1 2 3 4",
    "form hz a ha hba; tie 1 -2 3 -4; pawl 0 5 6 -7",
    "form h x y z hidden; pawl 3 5 -7 -2 1",
    "form aa ab ac ad; tie 1 1 1 2",
]

# A pawl cannot be left out of these forms, so there may be six of them.
SIX = "form a b c d e f; pawl 0 0 0 0 0 1; pawl 0 0 0 0 1 0; pawl 0 0 0 1 0 0;" \
    " pawl 0 0 1 0 0 0; pawl 0 1 0 0 0 0; pawl 1 -1 1 -2 3 -1"


def drawn_form(draw):
    """The form of a drawn hall for some of its wheels."""
    hall = drawing.any_hall(draw)
    return least_form(hall, tuple(draw.sample(hall.wheels, draw.randint(1, len(hall.wheels)))))


class InterfaceTest(unittest.TestCase):
    def test_names_and_arguments(self):
        for function, told in (
            (built, "(form)"),
            (opposite, "(hall, outer=())"),
            (replaced, "(hall, numbers, outer=())"),
        ):
            self.assertEqual(str(inspect.signature(function)), told)
            self.assertEqual(function.__module__, forms.__name__)

    def test_arguments_by_name(self):
        hall = Hall.read("wheels a b; brake b")
        self.assertEqual(built(form=Form.read("form a; tie 1")).text, "wheels a; brake a")
        self.assertEqual(least_form(opposite(outer=("a",), hall=hall)).text, "form a; tie 1")
        self.assertEqual(replaced(outer=("a", "b"), numbers=[0], hall=hall), hall)


class BuiltTest(unittest.TestCase):
    def test_examples(self):
        for text in [*FORMS, SIX]:
            self.assert_built(Form.read(text))

    def test_drawn(self):
        for seed in range(150):
            self.assert_built(drawn_form(random.Random(seed)))

    def test_rows_of_every_length_and_sign(self):
        for seed in range(120):
            draw = random.Random(seed)
            many = draw.randint(1, 6)
            row = [draw.choice([-1, 1]) * draw.randint(1, 10**draw.randint(1, 12)) for _ in range(many)]
            row = spaces.primitive(row)
            if row[0] < 0 and seed % 2:
                row = tuple(-number for number in row)
            word = "tie" if seed % 2 else "pawl"
            names = draw.sample(["a", "b", "ha", "hb", "hc", "z"], many)
            self.assert_built(Form.read(" ".join(["form", *names, ";", word, *map(str, row)])
                                        .replace(" ;", ";")))

    def test_each_time_a_new_hall(self):
        form = Form.read("form a b c; tie 1 2 3")
        one, other = built(form), built(form)
        self.assertIsNot(one, other)
        self.assertEqual(one, other)
        one.put(Brake("a"))
        one.add_wheel("z")
        self.assertEqual(built(form), other)
        self.assertEqual(form.text, "form a b c; tie 1 2 3")
        self.assertEqual(built(Form.read(form.text)), other)

    def test_great_numbers(self):
        self.assert_built(Form.read(f"form a b c; tie {10**900 + 1} {10**900} -{10**899}"))
        row = " ".join(str(7**at * (-1) ** at) for at in range(100, 106))
        self.assert_built(Form.read(f"form a b c d e f; pawl {row}".replace(str(7**100), "1")))

    def assert_built(self, form):
        hall = built(form)
        self.assertIs(type(hall), Hall)
        many = len(form.wheels)
        self.assertEqual(hall.wheels[:many], form.wheels)
        self.assertEqual(Hall.read(hall.text), hall)
        self.assertEqual(forming.differentials(hall.parts), forming.differentials_for(form))
        for part in hall.parts:
            self.assertIn(type(part), (Mesh, Chain, Differential, Brake, Ratchet, Freewheel))
        self.assertEqual(sum(part.is_pawl for part in hall.parts), len(form.pawls))
        self.assertIsNone(forming.fault(hall, form.wheels, least_form(hall, form.wheels)))
        if many:
            self.assertEqual(least_form(hall, form.wheels), form)
            self.assertIsNone(forming.fault(hall, form.wheels, form))


class OppositeTest(unittest.TestCase):
    def test_examples(self):
        for text, outer, form in (
            ("wheels", (), "form"),
            ("wheels a", (), "form a; tie 1"),
            ("wheels a; brake a", (), "form a"),
            ("wheels a; ratchet a", (), "form a; pawl -1"),
            ("wheels a; ratchet a backward", (), "form a; pawl 1"),
            ("wheels a b; chain a b 2 3", (), "form a b; tie 3 2"),
            ("wheels a b; chain a b 2 3", ("b", "a"), "form b a; tie 2 3"),
            ("wheels a b; chain a b 2 3", ("b",), "form b; tie 1"),
            ("wheels a b; freewheel a b", (), "form a b; tie 1 1; pawl 0 1"),
            ("wheels a b; freewheel a b; ratchet b", (), "form a b; pawl -1 -1; pawl -1 0"),
            ("wheels a b; freewheel a b; ratchet b", ("a",), "form a; pawl -1"),
            ("wheels a b; freewheel a b; brake b", ("a",), "form a; pawl -1"),
        ):
            hall = Hall.read(text)
            other = opposite(hall, outer)
            self.assert_opposite(hall, outer, other)
            self.assertEqual(least_form(other, outer or hall.wheels), Form.read(form), text)
            self.assertEqual(hall.text, text)

    def test_drawn(self):
        for seed in range(120):
            draw = random.Random(seed)
            hall = drawing.any_hall(draw) if seed % 2 else drawing.hall(draw, 6, seed % 4, 5)
            outer = tuple(draw.sample(hall.wheels, draw.randint(1, len(hall.wheels))))
            outer = outer if seed % 3 else ()
            names = outer or hall.wheels
            text = hall.text
            other = opposite(hall, outer)
            self.assert_opposite(hall, outer, other)
            back = opposite(other, names)
            self.assertEqual(least_form(back, names), least_form(hall, outer), text)
            self.assertEqual(back.wheels[: len(names)], names)
            self.assertEqual((hall.text, opposite(Hall.read(text), outer)), (text, other))

    def test_nine_pawls(self):
        for seed in range(15):
            draw = random.Random(seed)
            hall = drawing.hall(draw, draw.randint(4, 7), draw.randint(0, 1), 9)
            outer = tuple(draw.sample(hall.wheels, draw.randint(3, len(hall.wheels))))
            self.assert_opposite(hall, outer, opposite(hall, outer))

    def test_halls_that_are_built(self):
        for text in [*FORMS, SIX]:
            form = Form.read(text)
            hall = built(form)
            outer = form.wheels
            if outer:
                other = opposite(hall, outer)
                self.assert_opposite(hall, outer, other)
                self.assertEqual(least_form(opposite(other, outer), outer), form)

    def assert_opposite(self, hall, outer, other):
        """The other hall allows exactly the torques that the hall holds."""
        names = outer or hall.wheels
        self.assertIs(type(other), Hall)
        self.assertEqual(other.wheels[: len(names)], names)
        form = least_form(other, names) if names else Form.read("form")
        for torques in forming.ways_of(form):
            load = dict(zip(names, torques))
            word, forces = verdict(hall, load)
            self.assertEqual(word, "holds", (hall.text, outer, load))
            self.assertTrue(right.balances(hall, load, forces))
        for load in forming.loads_against(least_form(hall, outer)):
            torques = [load[name] for name in names]
            self.assertTrue(form.allows(*torques), (hall.text, outer, load))
            # And the hall itself says so, by a motion with these turns.
            told = driven(other, load)
            self.assertEqual(told[0], "runs")
            self.assertTrue(right.driven(other, load, told))

    def test_errors(self):
        assert_outer_errors(self, opposite)


class ReplacedTest(unittest.TestCase):
    def test_no_number(self):
        for text in ("wheels", "wheels a b", "wheels a b; chain a b 2 4; ratchet a; ratchet a"):
            hall = Hall.read(text)
            other = replaced(hall, [])
            self.assertEqual((other, hall.text), (hall, text))
            self.assertIsNot(other, hall)
            other.add_wheel("new")
            self.assertEqual(hall.text, text)

    def test_examples(self):
        text = "wheels a b c; chain a b 2 4; ratchet a; mesh b c 3 3; brake c; freewheel a c"
        for numbers, outer, told in (
            # The border of the chain is a, b: a is named by the ratchet, b by the mesh.
            ([0], (), "ratchet a; mesh b c 3 3; brake c; freewheel a c; chain a b 1 2"),
            ([0], ("c",), "ratchet a; mesh b c 3 3; brake c; freewheel a c; chain a b 1 2"),
            ([2, 3], ("a",), "chain a b 2 4; ratchet a; freewheel a c; brake b; brake c"),
            ([3, 2], ("a",), "chain a b 2 4; ratchet a; freewheel a c; brake b; brake c"),
            ([3, 2, 4], ("a",), "chain a b 2 4; ratchet a; brake b; ratchet a"),
            ([3, 2, 4, 0, 1], ("a",), "brake a"),
            ([3, 2, 4, 0, 1], ("c", "b"), "brake b; brake c"),
            ([3, 2, 4, 0, 1], (), "brake a; brake b; brake c"),
            ([4, 1], (), "chain a b 2 4; mesh b c 3 3; brake c; ratchet a; freewheel a c"),
        ):
            hall = Hall.read(text)
            other = replaced(hall, numbers, outer)
            self.assert_replaced(hall, numbers, outer, other)
            parts = [part.text for part in other.parts]
            self.assertEqual(sorted(parts), sorted(told.split("; ")), (numbers, outer))
            kept = len(hall) - len(numbers)
            self.assertEqual(parts[:kept], told.split("; ")[:kept])
            self.assertEqual(hall.text, text)

    def test_an_empty_border(self):
        hall = Hall.read("wheels a b c; chain a b 2 4; ratchet a; brake c")
        other = replaced(hall, [1, 0], ("c",))
        self.assertEqual(other.text, "wheels a b c; brake c")
        self.assert_replaced(hall, [1, 0], ("c",), other)

    def test_hidden_wheels_have_new_names(self):
        hall = Hall.read(
            "wheels a ha b hb c hc; mesh a ha 2 1; differential ha b hb 2 3; differential hb c hc 1 5;"
            " brake hc"
        )
        for outer in (("a", "b", "c"), ("ha", "c", "b"), ()):
            for numbers in ([0, 1, 2, 3], [1, 2], [2, 1, 3], [0, 3]):
                other = replaced(hall, numbers, outer)
                self.assert_replaced(hall, numbers, outer, other)

    def test_drawn(self):
        for seed in range(150):
            draw = random.Random(seed)
            hall = drawing.any_hall(draw)
            numbers = draw.sample(range(len(hall)), draw.randint(0, len(hall)))
            outer = tuple(draw.sample(hall.wheels, draw.randint(1, len(hall.wheels))))
            outer = outer if seed % 3 else ()
            before, text = list(numbers), hall.text
            other = replaced(hall, numbers, outer)
            self.assert_replaced(hall, numbers, outer, other)
            self.assertEqual((numbers, hall.text), (before, text))
            again = replaced(Hall.read(text), sorted(numbers), outer)
            self.assertEqual(again, other)

    def assert_replaced(self, hall, numbers, outer, other):
        many = len(hall.wheels)
        self.assertIs(type(other), Hall)
        self.assertEqual(other.wheels[:many], hall.wheels)
        self.assertEqual(Hall.read(other.text), other)
        kept = [part for number, part in enumerate(hall.parts) if number not in numbers]
        self.assertEqual(list(other.parts[: len(kept)]), kept)
        group = [hall.parts[number] for number in numbers]
        outside = {name for part in kept for name in part.wheels} | set(outer or hall.wheels)
        inside = {name for part in group for name in part.wheels}
        border = [name for name in hall.wheels if name in inside and name in outside]
        alone = Hall(*hall.wheels)
        for part in group:
            alone.put(part)
        new = other.parts[len(kept) :]
        if border:
            form = least_form(alone, tuple(border))
            self.assertEqual(forming.differentials(new), forming.differentials_for(form))
            self.assertEqual(sum(part.is_pawl for part in new), len(form.pawls))
            # The new parts alone have the group's form, and name no old wheel off the border.
            only = Hall(*other.wheels)
            for part in new:
                only.put(part)
            self.assertEqual(least_form(only, tuple(border)), form)
        else:
            self.assertEqual((new, other.wheels), ((), hall.wheels))
        named = {name for part in new for name in part.wheels if name in hall.wheels}
        self.assertLessEqual(named, set(border))
        self.assertEqual(least_form(other, outer or hall.wheels), least_form(hall, outer))

    def test_no_part(self):
        hall = Hall.read("wheels a b; brake a; brake b; ratchet a")
        text = hall.text
        wrong = [value for value in right.JUNK if type(value) is not int or not 0 <= value < 3]
        for value in wrong + [True, False, 3, -1, -3, 1.0, "0", Brake("a")]:
            for numbers in ([value], [0, value], [2, 1, value, 2], [value, 9], [value, value]):
                for outer in ((), ("a",), ("zz",), ("a", "a")):
                    with self.assertRaises(NoPart) as caught:
                        replaced(hall, numbers, outer)
                    self.assertIs(caught.exception.part, value)
        for numbers, number in (
            ([0, 0], 0), ([0, 1, 1, 0], 1), ([2, 0, 2, 7], 2), ([2, 0, 7, 2], 7), ([1, 1, None], 1),
        ):
            with self.assertRaises(NoPart) as caught:
                replaced(hall, numbers, ("zz",))
            self.assertEqual(caught.exception.part, number)
        self.assertEqual(hall.text, text)

    def test_no_wheel_and_twice(self):
        assert_outer_errors(self, lambda hall, outer: replaced(hall, [0], outer))


def assert_outer_errors(case, ask):
    hall = Hall.read("wheels a b c; brake a")
    for value in [value for value in right.JUNK if value != "a"] + ["d", Brake("a"), ["a"]]:
        for outer in ((value,), ("a", value), ("a", "a", value, "d"), (value, None)):
            with case.assertRaises(NoWheel) as caught:
                ask(hall, outer)
            case.assertIs(caught.exception.name, value)
    for outer, name in ((("a", "a"), "a"), (("a", "b", "c", "b", "a"), "b")):
        with case.assertRaises(Twice) as caught:
            ask(hall, outer)
        case.assertEqual(caught.exception.name, name)
    case.assertEqual(hall.text, "wheels a b c; brake a")


class PassedBackTest(unittest.TestCase):
    def test_halls_of_many_wheels(self):
        form = Form.read(
            "form a b c d e f; pawl -7 3 -1 9 2 5; pawl -3 2 5 -1 1 4; pawl 1 -8 2 3 -4 6;"
            " pawl 2 5 -3 4 1 -9; pawl 4 1 -6 -2 7 3; pawl 5 -2 8 1 -3 -4"
        )
        outer = form.wheels
        hall = built(form)
        self.assertTrue(30 <= len(hall.wheels) <= 100 and 30 <= len(hall) <= 100)
        other = opposite(hall, outer)
        self.assertEqual(least_form(opposite(other, outer), outer), form)
        seen = seen_from(hall, "a", "floor")
        self.assertEqual(state_of(seen, "a"), "locked")
        wider = (*outer, "floor")
        again = replaced(seen, list(range(0, len(seen), 2)), wider)
        self.assertEqual(alike(seen, again, wider)[0], "alike")
        for one in (hall, other, seen, again):
            whole = least_form(one)
            self.assertEqual(whole, least_form(Hall.read(one.text)))
            for load in forming.loads_against(whole)[::7]:
                self.assertEqual(verdict(one, load)[0], "holds")
        # All wheels outer: the torques at the hidden wheels, too.
        both = opposite(hall)
        self.assertEqual(both.wheels[: len(hall.wheels)], hall.wheels)
        self.assertEqual(alike(opposite(both, hall.wheels), hall, hall.wheels)[0], "alike")

    def test_wholly_replaced_again_and_again(self):
        for seed in range(20):
            draw = random.Random(seed)
            hall = drawing.any_hall(draw)
            outer = tuple(draw.sample(hall.wheels, draw.randint(1, min(6, len(hall.wheels)))))
            one = replaced(hall, list(range(len(hall))), outer)
            two = replaced(one, list(range(len(one))), outer)
            self.assertEqual(least_form(two, outer), least_form(hall, outer))
            self.assertEqual([part.text for part in built(least_form(hall, outer)).parts],
                             [part.text for part in built(least_form(two, outer)).parts])

    def test_great_teeth(self):
        for seed in range(6):
            draw = random.Random(seed)
            hall = drawing.hall(draw, 8, 4, 5, teeth=10**40)
            outer = tuple(draw.sample(hall.wheels, 5))
            other = opposite(hall, outer)
            self.assertEqual(least_form(opposite(other, outer), outer), least_form(hall, outer))
            numbers = draw.sample(range(len(hall)), 5)
            self.assertEqual(least_form(replaced(hall, numbers, outer), outer), least_form(hall, outer))


if __name__ == "__main__":
    unittest.main()
