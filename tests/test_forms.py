"""Points [16] and [17]: smallest forms and the class Form."""

import inspect
import random
import unittest
from itertools import permutations

import drawing
import forming
import right
import spaces
from pawlhall import forms
from pawlhall.errors import HallError, NoText, NoTurns, NoWheel, Twice
from pawlhall.forms import Form, built, least_form
from pawlhall.halls import Hall
from pawlhall.loads import verdict
from pawlhall.parts import Brake

ONE, ZERO, LESS = (1, 1), (0, 1), (-1, 1)

# For each hall and outer wheels: the text of the smallest form.
FORMS = [
    ("wheels", (), "form"),
    ("wheels a", (), "form a"),
    ("wheels a", ("a",), "form a"),
    ("wheels a; brake a", (), "form a; tie 1"),
    ("wheels a; brake a; ratchet a", (), "form a; tie 1"),
    ("wheels a; ratchet a; ratchet a", (), "form a; pawl 1"),
    ("wheels a; ratchet a backward", (), "form a; pawl -1"),
    ("wheels a; ratchet a backward; ratchet a", (), "form a; tie 1"),
    ("wheels a b; ratchet b", (), "form a b; pawl 0 1"),
    ("wheels a b; ratchet b", ("b", "a"), "form b a; pawl 1 0"),
    ("wheels a b; ratchet b", ("a",), "form a"),
    ("wheels a b; mesh a b 4 6", (), "form a b; tie 2 3"),
    ("wheels a b; mesh b a 4 6", (), "form a b; tie 3 2"),
    ("wheels a b; chain b a 4 6", (), "form a b; tie 3 -2"),
    ("wheels a b; chain b a 4 6", ("b", "a"), "form b a; tie 2 -3"),
    ("wheels a b; chain b a 4 6", ("b",), "form b"),
    ("wheels a b; chain b a 4 6; ratchet a", ("b",), "form b; pawl 1"),
    ("wheels a b; mesh b a 4 6; ratchet a", (), "form a b; tie 3 2; pawl 0 -1"),
    ("wheels a b; mesh b a 4 6; ratchet a", ("b", "a"), "form b a; tie 2 3; pawl 0 1"),
    ("wheels a b c; chain a b 2 1; chain b c 3 1", ("a", "c"), "form a c; tie 6 -1"),
    ("wheels a b c; chain a b 2 1; chain b c 3 1", (), "form a b c; tie 6 0 -1; tie 0 3 -1"),
    ("wheels a b c; freewheel a b; freewheel b c", ("a", "c"), "form a c; pawl 1 -1"),
    ("wheels a b c; freewheel a b; freewheel b c", (), "form a b c; pawl 0 1 -1; pawl 1 -1 0"),
    (
        "wheels a b c; freewheel a b; freewheel a c; freewheel b c",
        (),
        "form a b c; pawl 0 1 -1; pawl 1 -1 0",
    ),
    ("wheels a b; freewheel a b; freewheel b a", (), "form a b; tie 1 -1"),
    ("wheels a b c; freewheel a b; freewheel b c; freewheel c a", ("c",), "form c"),
    (
        "wheels a b c; freewheel a b; freewheel b c; freewheel c a; ratchet b",
        ("c", "a"),
        "form c a; tie 1 -1; pawl 0 1",
    ),
    ("wheels a b c; differential a b c 2 3", (), "form a b c; tie 2 3 -5"),
    ("wheels a b c; differential a b c 2 3", ("c", "b", "a"), "form c b a; tie 5 -3 -2"),
    ("wheels a b c; differential a b c 2 3; ratchet c", ("a", "b"), "form a b; pawl 2 3"),
    ("wheels a b c; differential a b c 2 3; freewheel a b; brake b", ("c",), "form c; pawl 1"),
    ("wheels a b c; differential a b c 2 3", ("a", "b"), "form a b"),
    (
        "wheels a b c d; freewheel a d; freewheel d b; freewheel d c",
        ("a", "b", "c"),
        "form a b c; pawl 1 -1 0; pawl 1 0 -1",
    ),
    (
        "wheels a b c d e; freewheel a e; freewheel b e; freewheel e c; freewheel e d",
        ("a", "b", "c", "d"),
        "form a b c d; pawl 0 1 -1 0; pawl 0 1 0 -1; pawl 1 0 -1 0; pawl 1 0 0 -1",
    ),
    (
        # Two rows below and three above a hidden wheel: six pawls come out of five.
        "wheels a b c d e f; freewheel a f; freewheel b f; freewheel f c; freewheel f d;"
        " freewheel f e",
        ("a", "b", "c", "d", "e"),
        "form a b c d e; pawl 0 1 -1 0 0; pawl 0 1 0 -1 0; pawl 0 1 0 0 -1; pawl 1 0 -1 0 0;"
        " pawl 1 0 0 -1 0; pawl 1 0 0 0 -1",
    ),
]

NO_TEXTS = [
    "", " ", "form ", " form", "Form a", "form  a", "form a ", "forms a", "wheels a", "a", "tie 1",
    "form A", "form a1", "form abcdefghi", "form a b a", "form a a", "form a,b", "form a\tb",
    "form a\n", "form a;", "form a; ", "form a;tie 1", "form a ; tie 1", "form a;  tie 1",
    "form; tie", "form; pawl", "form; tie 1", "form; pawl 0",
    "form a; tie", "form a; tie ", "form a; tie  1", "form a; tie 1 ", "form a; tie 1 0",
    "form a b; tie 1", "form a; Tie 1", "form a; ties 1", "form a; row 1", "form a; 1",
    "form a; brake a", "form a; tie a", "form a; tie 1.0", "form a; tie 1/1", "form a; tie 0x1",
    "form a; tie +1", "form a; tie 01", "form a; tie 00", "form a; tie -0", "form a; tie 0",
    "form a; tie --1", "form a; tie 1-", "form a; tie -", "form a; tie 1_0", "form a; tie 2",
    "form a; tie -1", "form a; tie 1; tie 1", "form a; tie 1; pawl 1", "form a; tie 1; pawl 0",
    "form a; pawl", "form a; pawl 0", "form a; pawl 2", "form a; pawl -2", "form a; pawl +1",
    "form a; pawl 01", "form a; pawl -01", "form a; pawl 1; pawl 1", "form a; pawl 1 1",
    "form a; pawl 1; pawl -1", "form a; pawl -1; pawl 1", "form a; pawl 1; tie 1",
    "form a b; tie 2 -2", "form a b; tie -1 1", "form a b; tie 0 -1", "form a b; tie 1 -1; tie 1 -1",
    "form a b; tie 0 1; tie 1 0", "form a b; tie 1 1; tie 0 1", "form a b; tie 1 0; tie 1 1",
    "form a b; tie 1 -1; pawl 1 0", "form a b; tie 1 -1; pawl 1 -1", "form a b; tie 1 -1; pawl 0 2",
    "form a b; pawl 0 1; tie 1 0", "form a b; pawl 1 0; pawl 0 1", "form a b; pawl 1 -1; pawl -1 1",
    "form a b; pawl 0 1; pawl 1 0; pawl 1 1", "form a b; pawl 0 1; pawl 1 -1; pawl 1 0",
    "form a b; pawl 0 1; pawl 0 1", "form a b; pawl 2 0", "form a b; pawl 2 4",
    "form a b; pawl 0 0", "form a b; tie 0 0", "form a b; pawl -1 -1; pawl 0 1; pawl 1 0",
    "form a b c; tie 1 0 -1; tie 0 1 -1; tie 0 0 1", "form a b c; tie 0 1 -1; tie 1 0 -1",
    "form a b c; pawl 0 0 1; pawl 0 1 -1; pawl 1 -1 0; pawl 1 0 0",
    "form a b c; pawl -1 0 0; pawl 0 -1 0; pawl 0 0 -1; pawl 1 1 1",
]


def least(text, outer=()):
    return least_form(Hall.read(text), outer)


def drawn_outer(draw, hall):
    return tuple(draw.sample(hall.wheels, draw.randint(1, len(hall.wheels))))


class InterfaceTest(unittest.TestCase):
    def test_the_class_itself_has_its_methods(self):
        self.assertEqual(Form.__module__, forms.__name__)
        for name in "wheels ties pawls text read allows holds __eq__".split():
            self.assertIn(name, vars(Form))

    def test_names_and_arguments(self):
        self.assertEqual(str(inspect.signature(least_form)), "(hall, outer=())")
        self.assertEqual(least_form.__module__, forms.__name__)
        self.assertEqual(str(inspect.signature(Form.read)), "(text)")
        self.assertEqual(str(inspect.signature(Form.allows)), "(self, *turns)")
        self.assertEqual(str(inspect.signature(Form.holds)), "(self, *torques)")

    def test_arguments_by_name(self):
        hall = Hall.read("wheels a b; chain a b 1 2")
        self.assertEqual(least_form(outer=("b", "a"), hall=hall).text, "form b a; tie 2 -1")
        self.assertEqual(least_form(hall=hall), Form.read(text="form a b; tie 1 -2"))


class LeastFormTest(unittest.TestCase):
    def test_examples(self):
        for text, outer, told in FORMS:
            hall = Hall.read(text)
            form = least_form(hall, outer)
            self.assertIs(type(form), Form)
            self.assertEqual(form.text, told, (text, outer))
            names = outer or hall.wheels
            self.assertIsNone(forming.fault(hall, names, form), (text, outer))
            self.assertTrue(right.plain([form.wheels, form.ties, form.pawls, form.text]))
            self.assertEqual(hall.text, text)

    def test_rows(self):
        form = least("wheels a b c d; chain a b 1 2; freewheel c d", ("b", "a", "d", "c"))
        self.assertEqual(form.wheels, ("b", "a", "d", "c"))
        self.assertEqual((form.ties, form.pawls), (((2, -1, 0, 0),), ((0, 0, -1, 1),)))

    def test_six_pawls_at_most(self):
        many = []
        for seed in range(150):
            draw = random.Random(seed)
            hall = drawing.hall(draw, 8, draw.randint(0, 3), 5)
            many.append(len(least_form(hall, drawn_outer(draw, hall)).pawls))
        self.assertLessEqual(max(many), 6)
        self.assertEqual(max(len(least(text, outer).pawls) for text, outer, _ in FORMS), 6)

    def test_drawn(self):
        for seed in range(250):
            draw = random.Random(seed)
            hall = drawing.any_hall(draw) if seed % 2 else drawing.hall(draw, 6, seed % 4, 5)
            outer = drawn_outer(draw, hall) if seed % 3 else ()
            text = hall.text
            form = least_form(hall, outer)
            self.assertIsNone(forming.fault(hall, outer or hall.wheels, form), (text, outer))
            self.assertEqual(hall.text, text)
            self.assertEqual(least_form(Hall.read(text), outer), form)

    def test_all_wheels_in_their_order(self):
        for seed in range(30):
            hall = drawing.any_hall(random.Random(seed))
            self.assertEqual(least_form(hall), least_form(hall, hall.wheels))
            self.assertEqual(least_form(hall, ()).wheels, hall.wheels)

    def test_outer_wheels_in_any_order(self):
        hall = Hall.read("wheels a b c d; differential a b c 2 3; freewheel c d; ratchet b; brake a")
        for many in (1, 2, 3, 4):
            for outer in permutations("abcd", many):
                self.assertIsNone(forming.fault(hall, outer, least_form(hall, outer)), outer)

    def test_the_parts_and_their_order_do_not_count_but_what_they_demand(self):
        for seed in range(60):
            draw = random.Random(seed)
            hall = drawing.any_hall(draw)
            other = Hall(*draw.sample(hall.wheels, len(hall.wheels)))
            for part in draw.sample(hall.parts, len(hall.parts)) + list(hall.parts):
                other.put(part)
            outer = drawn_outer(draw, hall)
            self.assertEqual(least_form(hall, outer), least_form(other, outer))

    def test_errors(self):
        hall = Hall.read("wheels a b c; brake a")
        wrong = [value for value in right.JUNK if value != "a"] + ["d", "A", Brake("a"), ["a"]]
        for value in wrong:
            for outer in ((value,), ("a", value), ("a", "a", value, "d"), (value, None)):
                with self.assertRaises(NoWheel) as caught:
                    least_form(hall, outer)
                self.assertIs(caught.exception.name, value)
        for outer, name in (
            (("a", "a"), "a"),
            (("a", "b", "c", "b", "a"), "b"),
            (("a", "b", "c", "c", "c"), "c"),
        ):
            with self.assertRaises(Twice) as caught:
                least_form(hall, outer)
            self.assertEqual(caught.exception.name, name)
        with self.assertRaises(NoWheel):
            least_form(Hall(), ("a",))


class TextTest(unittest.TestCase):
    def test_reading_what_is_written(self):
        for text, outer, told in FORMS:
            form = Form.read(told)
            self.assertIs(type(form), Form)
            self.assertEqual(form, least(text, outer))
            self.assertEqual(form.text, told)
            other = least(text, outer)
            rows = (form.wheels, form.ties, form.pawls)
            self.assertEqual(rows, (other.wheels, other.ties, other.pawls))
            self.assertTrue(right.plain(rows))

    def test_drawn(self):
        for seed in range(150):
            draw = random.Random(seed)
            hall = drawing.any_hall(draw)
            form = least_form(hall, drawn_outer(draw, hall))
            again = Form.read(form.text)
            self.assertEqual((again, again.text), (form, form.text))
            self.assertEqual((again.ties, again.pawls), (form.ties, form.pawls))

    def test_texts_that_are_none(self):
        for text in NO_TEXTS:
            with self.assertRaises(NoText, msg=text) as caught:
                Form.read(text)
            self.assertIs(caught.exception.value, text)

    def test_things_that_are_no_strings(self):
        things = [value for value in right.JUNK if not isinstance(value, str)]
        for value in things + [Brake("a"), b"form a", ["form a"], least("wheels a")]:
            with self.assertRaises(NoText) as caught:
                Form.read(value)
            self.assertIs(caught.exception.value, value)

    def test_rows_changed(self):
        # A form is written in one way only, so what reads must be what is written.
        refused = 0
        for seed in range(60):
            draw = random.Random(seed)
            hall = drawing.hall(draw, draw.randint(2, 5), draw.randint(0, 3), draw.randint(0, 4))
            form = least_form(hall)
            for text in changed_texts(draw, form.text):
                if text == form.text:
                    continue
                if reads(text):
                    other = Form.read(text)
                    self.assertEqual(other.text, text)
                    self.assertTrue(spaces.is_smallest(other.ties, other.pawls, len(other.wheels)))
                else:
                    refused += 1
                    with self.assertRaises(NoText):
                        Form.read(text)
        self.assertGreater(refused, 500)

    def test_great_numbers(self):
        great = 10**900 + 7
        text = f"form a b c; tie {great} 0 -1; pawl 0 {great} -{great + 1}"
        self.assertEqual(Form.read(text).pawls, ((0, great, -great - 1),))
        self.assertEqual(Form.read(text).text, text)
        with self.assertRaises(NoText):
            Form.read(f"form a b c; tie {great} 0 -{great}")

    def test_equal_exactly_for_equal_texts(self):
        texts = [told for _, _, told in FORMS]
        for one in texts:
            for other in texts:
                self.assertIs(Form.read(one) == Form.read(other), one == other, (one, other))
                self.assertIs(Form.read(one) != Form.read(other), one != other)
        for value in right.JUNK + ["form a", Brake("a"), Hall("a")]:
            self.assertFalse(Form.read("form a") == value)
        self.assertNotEqual(Form.read("form a b; pawl 1 0"), Form.read("form b a; pawl 1 0"))


def reads(text):
    """Whether a text with rows of the right shape is that of a smallest form."""
    first, *items = text.split("; ")
    wheels = first.split(" ")[1:]
    rows = {"tie": [], "pawl": []}
    for item in items:
        word, *numbers = item.split(" ")
        rows[word].append(tuple(map(int, numbers)))
    ties, pawls = rows["tie"], rows["pawl"]
    return forming.written(wheels, ties, pawls) == text and all(
        any(row) for row in ties + pawls
    ) and spaces.is_smallest(ties, pawls, len(wheels))


def changed_texts(draw, text):
    """Texts with a row doubled, turned, repeated, left out, exchanged or changed in a number."""
    first, *items = text.split("; ")
    for at, item in enumerate(items):
        word, *numbers = item.split(" ")
        numbers = [int(number) for number in numbers]
        summed = [a + b for a, b in zip(numbers, map(int, draw.choice(items).split(" ")[1:]))]
        for row in (
            [2 * number for number in numbers],
            [-number for number in numbers],
            [number + (place == draw.randrange(len(numbers))) for place, number in enumerate(numbers)],
            summed,
            numbers[::-1],
        ):
            other = " ".join([word, *map(str, row)])
            yield "; ".join([first, *items[:at], other, *items[at + 1 :]])
            yield "; ".join([first, *items, other])
        yield "; ".join([first, *items[:at], item, *items[at:]])
        yield "; ".join([first, *items[:at], *items[at + 1 :]])
        yield "; ".join([first, *draw.sample(items, len(items))])
        other = " ".join(["pawl" if word == "tie" else "tie", *map(str, numbers)])
        yield "; ".join([first, *items[:at], other, *items[at + 1 :]])


class AllowsTest(unittest.TestCase):
    def test_examples(self):
        form = Form.read("form a b; tie 2 -1; pawl 0 1")
        for turns, told in (
            ((ZERO, ZERO), True),
            ((ONE, (2, 1)), True),
            (((1, 2), ONE), True),
            ((ONE, ONE), False),
            ((LESS, (-2, 1)), False),
        ):
            self.assertIs(form.allows(*turns), told, turns)
        self.assertIs(Form.read("form").allows(), True)
        self.assertIs(Form.read("form a").allows((-7, 3)), True)
        self.assertIs(Form.read("form a; tie 1").allows((1, 10**999)), False)

    def test_drawn(self):
        words = []
        for seed in range(120):
            draw = random.Random(seed)
            hall = drawing.any_hall(draw)
            outer = drawn_outer(draw, hall)
            form = least_form(hall, outer)
            ways = forming.ways_of(form)
            for _ in range(6):
                if ways and draw.random() < 0.7:
                    turns = sum_of(draw, ways)
                else:
                    turns = [right.written(drawing.fraction(draw, -2, 2, 2)) for _ in outer]
                numbers = [right.number(turn) for turn in turns]
                expected = all(spaces.dot(row, numbers) == 0 for row in form.ties)
                expected = expected and all(spaces.dot(row, numbers) >= 0 for row in form.pawls)
                self.assertIs(form.allows(*turns), expected, (hall.text, outer, turns))
                words.append(expected)
        self.assertTrue(words.count(True) > 100 and words.count(False) > 100)

    def test_no_turns(self):
        form = Form.read("form a b; tie 2 -1")
        for ask in (form.allows, form.holds):
            for turns in (
                (), (ONE,), (ONE, ONE, ONE), (ONE, None), (None, ONE), (1, 2), (True, False),
                (ONE, (2, 4)), ((1, 0), ONE), ((1, -1), ONE), ((True, 1), ONE), ("1", "2"),
                ([1, 1], ONE), ({}, ONE), (ONE, Brake("a")), ((ONE, ONE),), ([ONE, ONE],),
            ):
                with self.assertRaises(NoTurns) as caught:
                    ask(*turns)
                self.assertIs(type(caught.exception.turns), tuple)
                self.assertEqual(caught.exception.turns, turns)
                for one, other in zip(caught.exception.turns, turns):
                    self.assertIs(one, other)
            with self.assertRaises(HallError):
                ask(ONE)
        with self.assertRaises(NoTurns) as caught:
            Form.read("form").holds(ONE)
        self.assertEqual(caught.exception.turns, (ONE,))


def sum_of(draw, ways):
    total = [0] * len(ways[0])
    for way in draw.choices(ways, k=3):
        times = drawing.fraction(draw, 0, 3, 2)
        total = [one + times * right.number(two) for one, two in zip(total, way)]
    return [right.written(one) for one in total]


class HoldsTest(unittest.TestCase):
    def test_examples(self):
        form = Form.read("form a b; tie 2 -1; pawl 0 1")
        for torques, told in (
            ((ZERO, ZERO), True),
            (((-2, 1), ONE), True),
            (((2, 1), LESS), True),
            ((ONE, ZERO), False),
            ((LESS, ZERO), True),
            ((ZERO, LESS), True),
            ((ZERO, (1, 999)), False),
            ((ONE, (-1, 2)), True),
            ((ONE, (-1, 3)), False),
        ):
            self.assertIs(form.holds(*torques), told, torques)
        self.assertIs(Form.read("form").holds(), True)
        self.assertIs(Form.read("form a").holds(ZERO), True)
        self.assertIs(Form.read("form a").holds(ONE), False)
        self.assertIs(Form.read("form a; tie 1").holds((-7, 3)), True)

    def test_drawn(self):
        words = []
        for seed in range(120):
            draw = random.Random(seed)
            hall = drawing.any_hall(draw)
            outer = drawn_outer(draw, hall)
            form = least_form(hall, outer)
            ways = forming.ways_of(form)
            sides = [[load[name] for name in outer] for load in forming.loads_against(form)]
            for _ in range(6):
                if sides and draw.random() < 0.7:
                    torques = sum_of(draw, sides)
                else:
                    torques = [right.written(drawing.fraction(draw, -2, 2, 2)) for _ in outer]
                numbers = [right.number(torque) for torque in torques]
                works = [spaces.dot(numbers, map(right.number, way)) for way in ways]
                expected = all(one <= 0 for one in works)
                self.assertIs(form.holds(*torques), expected, (hall.text, outer, torques))
                load = dict(zip(outer, torques))
                self.assertEqual(verdict(hall, load)[0] == "holds", expected)
                words.append(expected)
        self.assertTrue(words.count(True) > 100 and words.count(False) > 100)


class BigTest(unittest.TestCase):
    def test_a_hundred_wheels_and_parts(self):
        for seed, ties in ((1, 91), (2, 50), (3, 0)):
            draw = random.Random(seed)
            hall = drawing.hall(draw, 100, ties, 9, teeth=30)
            form = least_form(hall)
            for row in form.ties:
                self.assertGreater(row[next(at for at in range(100) if row[at])], 0)
            self.assertEqual(len(form.wheels), 100)
            for load in forming.loads_against(form)[::9]:
                self.assertEqual(verdict(hall, load)[0], "holds")
            outer = tuple(draw.sample(hall.wheels, 5))
            self.assertIsNone(forming.fault(hall, outer, least_form(hall, outer)))

    def test_great_teeth(self):
        for seed in range(8):
            draw = random.Random(seed)
            hall = drawing.hall(draw, 8, 5, 5, teeth=10**30)
            outer = drawn_outer(draw, hall)
            self.assertIsNone(forming.fault(hall, outer, least_form(hall, outer)), hall.text)

    def test_nine_pawls(self):
        for seed in range(25):
            draw = random.Random(seed)
            hall = drawing.hall(draw, draw.randint(4, 8), draw.randint(0, 1), 9)
            outer = drawn_outer(draw, hall)
            self.assertIsNone(forming.fault(hall, outer, least_form(hall, outer)), hall.text)

    def test_forms_of_built_halls_seen_from_everywhere(self):
        form = Form.read(
            "form a b c d; tie 7 0 5 -3; pawl 0 -4 2 9; pawl 0 3 -2 5; pawl 0 999999999999 1 1"
        )
        hall = built(form)
        for outer in permutations("abcd"):
            self.assertIsNone(forming.fault(hall, outer, least_form(hall, outer)), outer)


if __name__ == "__main__":
    unittest.main()
