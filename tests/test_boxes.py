"""Point [23], boxes with levers, and what [7], [8] and [2] say of them."""

import inspect
import random
import unittest

import drawing
import right
from pawlhall import boxes
from pawlhall.boxes import Box
from pawlhall.errors import HallError, NoLever, NoName, NoPart, NoText, NoWheel, Twice
from pawlhall.forms import alike, least_form
from pawlhall.halls import Hall
from pawlhall.loads import bearing, held_by, tried, verdict
from pawlhall.motions import broken
from pawlhall.parts import Brake, Chain, Differential, Freewheel, Mesh, Ratchet
from pawlhall.wheels import freedom, idle, seen_from, state_of
from pawlhall.wishes import driven, settled

ONE, ZERO = (1, 1), (0, 1)

NO_NAMES = [
    None, True, False, 0, 1, "", "A", "aB", "a1", "a b", " a", "a-b", "abcdefghi", (), ("a",),
    [], ["a"], {}, {"a": 1}, Brake("a"),
]

NO_PARTS = right.JUNK + ["brake a", ("brake", "a"), [Brake("a")], Brake]

# For each text: wheels, parts, and the parts of the positions.
TEXTS = [
    ("wheels", (), (), {}),
    ("wheels a b", ("a", "b"), (), {}),
    ("wheels a; brake a", ("a",), ("brake a",), {}),
    ("wheels; lever low", (), (), {"low": ()}),
    ("wheels a; lever a", ("a",), (), {"a": ()}),
    ("wheels a; lever lever; brake a", ("a",), (), {"lever": ("brake a",)}),
    ("wheels a; brake a; lever low", ("a",), ("brake a",), {"low": ()}),
    ("wheels a; lever low; brake a", ("a",), (), {"low": ("brake a",)}),
    (
        "wheels a b; lever low; brake b; lever high; brake a",
        ("a", "b"), (), {"low": ("brake b",), "high": ("brake a",)},
    ),
    (
        "wheels a b c; chain a b 2 3; ratchet c; lever one; lever two; mesh b c 1 1;"
        " ratchet a backward; lever three; freewheel a c; freewheel a c",
        ("a", "b", "c"), ("chain a b 2 3", "ratchet c"),
        {
            "one": (), "two": ("mesh b c 1 1", "ratchet a backward"),
            "three": ("freewheel a c", "freewheel a c"),
        },
    ),
]

NO_TEXTS = [
    "", "wheel a", "wheels ", " wheels a", "wheels a;", "wheels a; ", "box a", "lever a",
    "wheels a; lever", "wheels a; lever ", "wheels a; lever  low", "wheels a; lever low ",
    "wheels a; lever low high", "wheels a; lever Low", "wheels a; lever l1", "wheels a;lever low",
    "wheels a; Lever low", "wheels a; levers low", "wheels a; lever abcdefghi",
    "wheels a; lever low; lever low", "wheels a; lever low; brake a; lever low; brake a",
    "wheels a; lever low; brake b", "wheels a; brake b; lever low", "wheels a; lever low;",
    "wheels a; lever low; ", "wheels a; lever low; brake  a", "wheels a; lever low; brake",
    "wheels a; lever low; ratchet a forward", "wheels a; lever low; wheels b",
    "wheels a; lever low; chain a a 1 1", "wheels a a; lever low", "wheels a; lever low; 1",
    "wheels a b; lever low; chain a b 0 1", "wheels a b; lever low; chain a b 01 1",
    "wheels a; lever low brake a", "wheels a, lever low", "wheels a; lever low, brake a",
    "wheels a; lever low; lever", "wheels a; lever; brake a", "wheels a; lever ;",
]


class BoxCase(unittest.TestCase):
    def assert_state(self, box, wheels, parts, levers):
        """The box has these wheels, parts and positions, and says so in every way."""
        self.assertIs(type(box), Box)
        self.assertEqual(box.wheels, wheels)
        self.assertEqual(tuple(part.text for part in box.parts), parts)
        self.assertEqual(len(box), len(parts))
        self.assertEqual(box.levers, tuple(levers) or ("",))
        self.assertTrue(right.plain((box.wheels, box.levers, box.text)))
        items = [" ".join(["wheels", *wheels]), *parts]
        for name, own in levers.items():
            items += [f"lever {name}", *own]
        self.assertEqual(box.text, "; ".join(items))
        for name in box.levers:
            hall = box.at(name)
            self.assertIs(type(hall), Hall)
            own = levers.get(name, ())
            self.assertEqual(hall.text, "; ".join([" ".join(["wheels", *wheels]), *parts, *own]))
            self.assertIsNot(box.at(name), hall)
        again = Box.read(box.text)
        self.assertEqual((again, again.text, again.levers), (box, box.text, box.levers))

    def assert_unchanged(self, box, error, function, *arguments):
        """The call raises the error, and the box is as it was."""
        text = box.text
        with self.assertRaises(error) as caught:
            function(*arguments)
        self.assertEqual(box.text, text)
        return caught.exception


class InterfaceTest(unittest.TestCase):
    def test_the_class_itself_has_its_methods(self):
        self.assertEqual(Box.__module__, boxes.__name__)
        self.assertEqual(Box.__bases__, (Hall,))
        for name in "lever levers at text copy read trial __eq__".split():
            self.assertIn(name, vars(Box))
        self.assertEqual((Box.MOST_WHEELS, Box("a").MOST_WHEELS), (8, 8))

    def test_arguments_by_name(self):
        self.assertEqual(str(inspect.signature(Box.lever)), "(self, name, *parts)")
        box = Box.read(text="wheels a; lever low; brake a")
        self.assertEqual(box.at(name="low").text, "wheels a; brake a")
        box.lever(name="high")
        box.add_wheel(name="b")
        self.assertEqual(box.put(part=Brake("b")), 0)
        box.take(number=0)
        self.assertEqual(
            box.played(steps=[("lever", "mid", [])]),
            ["wheels a b; lever low; brake a; lever high; lever mid"],
        )


class DeedsTest(BoxCase):
    def test_created(self):
        self.assert_state(Box(), (), (), {})
        self.assert_state(Box("b", "a"), ("b", "a"), (), {})
        for value in NO_NAMES:
            with self.assertRaises(NoName) as caught:
                Box("a", value, "a")
            self.assertIs(caught.exception.name, value)
        with self.assertRaises(Twice) as caught:
            Box("a", "b", "b", "a")
        self.assertEqual(caught.exception.name, "b")

    def test_after_each_deed(self):
        box = Box("a")
        self.assertIsNone(box.lever("low", Brake("a")))
        self.assert_state(box, ("a",), (), {"low": ("brake a",)})
        box.add_wheel("b")
        self.assert_state(box, ("a", "b"), (), {"low": ("brake a",)})
        self.assertEqual(box.put(Chain("a", "b", 2, 3)), 0)
        self.assert_state(box, ("a", "b"), ("chain a b 2 3",), {"low": ("brake a",)})
        box.lever("high")
        levers = {"low": ("brake a",), "high": ()}
        self.assert_state(box, ("a", "b"), ("chain a b 2 3",), levers)
        self.assertEqual(box.put(Ratchet("b")), 1)
        box.lever("mid", Ratchet("b"), Brake("b"))
        levers["mid"] = ("ratchet b", "brake b")
        self.assert_state(box, ("a", "b"), ("chain a b 2 3", "ratchet b"), levers)
        box.take(0)
        self.assert_state(box, ("a", "b"), ("ratchet b",), levers)
        box.take(0)
        self.assert_state(box, ("a", "b"), (), levers)

    def test_numbers_are_those_of_its_own_parts(self):
        box = Box.read("wheels a; brake a; lever low; ratchet a")
        for value in (1, 2, -1, None, True, "0", (0,), Brake("a")):
            error = self.assert_unchanged(box, NoPart, box.take, value)
            self.assertIs(error.part, value)
        self.assertEqual([part.text for part in box.at("low").parts], ["brake a", "ratchet a"])

    def test_a_box_without_positions(self):
        box = Box.read("wheels a; brake a")
        self.assertEqual((box.levers, box.at("").text), (("",), "wheels a; brake a"))
        box.lever("low")
        self.assertEqual(box.levers, ("low",))
        error = self.assert_unchanged(box, NoLever, box.at, "")
        self.assertEqual(error.name, "")

    def test_what_is_at_a_position_is_new(self):
        box = Box.read("wheels a; lever low; brake a")
        hall = box.at("low")
        hall.take(0)
        hall.add_wheel("b")
        self.assertEqual(box.text, "wheels a; lever low; brake a")
        self.assertEqual(box.at("low").text, "wheels a; brake a")

    def test_errors_of_lever(self):
        box = Box.read("wheels a b; lever low; brake a")
        off, on = Brake("zz"), Brake("a")
        for value in NO_NAMES:
            for parts in ((), (on,), (off,), (None,)):
                error = self.assert_unchanged(box, NoName, box.lever, value, *parts)
                self.assertIs(error.name, value)
        for parts in ((), (on,), (off,), (None,)):
            error = self.assert_unchanged(box, Twice, box.lever, "low", *parts)
            self.assertEqual(error.name, "low")
        for value in NO_PARTS:
            for parts in ((value,), (on, value, off), (off, value), (value, None, off)):
                error = self.assert_unchanged(box, NoPart, box.lever, "high", *parts)
                self.assertIs(error.part, value)
        for parts, name in (
            ((off,), "zz"),
            ((on, Chain("b", "c"), off), "c"),
            ((Differential("a", "d", "c"),), "d"),
            ((Freewheel("x", "y"), on), "x"),
        ):
            error = self.assert_unchanged(box, NoWheel, box.lever, "high", *parts)
            self.assertEqual(error.name, name)
        box.lever("a", on, on)
        self.assertEqual(box.levers, ("low", "a"))

    def test_errors_of_at(self):
        for text in ("wheels a b; lever low; brake a", "wheels a b"):
            box = Box.read(text)
            for value in right.JUNK + ["high", "Low", "low ", Brake("a"), ["low"], ("low",)]:
                if value != "" or text.endswith("brake a"):
                    error = self.assert_unchanged(box, NoLever, box.at, value)
                    self.assertIs(error.name, value)

    def test_errors_of_a_hall(self):
        box = Box.read("wheels a b; lever low; brake a")
        self.assertEqual(self.assert_unchanged(box, Twice, box.add_wheel, "a").name, "a")
        self.assertEqual(self.assert_unchanged(box, NoName, box.add_wheel, "A").name, "A")
        self.assertEqual(self.assert_unchanged(box, NoWheel, box.put, Brake("c")).name, "c")
        self.assertIsNone(self.assert_unchanged(box, NoPart, box.put, None).part)
        self.assertIsInstance(self.assert_unchanged(box, NoPart, box.take, 0), HallError)

    def test_six_positions_and_ten_parts_each(self):
        wheels = tuple("abcdefgh")
        box, levers = Box(*wheels), {}
        for part in [Ratchet(name) for name in wheels] + [Brake("a"), Brake("b")]:
            box.put(part)
        for at in range(6):
            parts = [Freewheel(one, other) for one, other in zip("abcdefgh", "bcdefgha")]
            parts += [Mesh("a", "h", at + 1, 999999), Chain("a", "b")]
            box.lever(f"l{wheels[at]}", *parts)
            levers[f"l{wheels[at]}"] = tuple(part.text for part in parts)
        self.assert_state(box, wheels, tuple(part.text for part in box.parts), levers)
        self.assertEqual(len(box.at("lc")), 20)


class TextTest(BoxCase):
    def test_texts(self):
        for text, wheels, parts, levers in TEXTS:
            box = Box.read(text)
            self.assertEqual(box.text, text)
            self.assert_state(box, wheels, parts, levers)

    def test_texts_that_are_none(self):
        for text in NO_TEXTS:
            with self.assertRaises(NoText, msg=text) as caught:
                Box.read(text)
            self.assertIs(caught.exception.value, text)

    def test_things_that_are_no_strings(self):
        things = [value for value in right.JUNK if not isinstance(value, str)]
        for value in things + [Brake("a"), b"wheels a", ["wheels a"], Box("a")]:
            with self.assertRaises(NoText) as caught:
                Box.read(value)
            self.assertIs(caught.exception.value, value)

    def test_a_hall_reads_no_positions(self):
        for text, _, _, levers in TEXTS:
            if levers:
                with self.assertRaises(NoText) as caught:
                    Hall.read(text)
                self.assertIs(caught.exception.value, text)
            else:
                self.assertIs(type(Hall.read(text)), Hall)

    def test_drawn(self):
        for seed in range(60):
            box = drawing.box(random.Random(seed))
            again = Box.read(box.text)
            self.assertEqual((again, again.levers, len(again)), (box, box.levers, len(box)))
            for name in box.levers:
                self.assertEqual(again.at(name), box.at(name))


class EqualTest(BoxCase):
    def test_exactly_for_equal_texts(self):
        texts = [text for text, _, _, _ in TEXTS]
        for one in texts:
            for other in texts:
                self.assertIs(Box.read(one) == Box.read(other), one == other, (one, other))
                self.assertIs(Box.read(one) != Box.read(other), one != other)
        self.assertNotEqual(
            Box.read("wheels a; lever low; lever high"), Box.read("wheels a; lever high; lever low")
        )
        for value in right.JUNK + ["wheels a", Brake("a")]:
            self.assertFalse(Box("a") == value)

    def test_however_it_is_made(self):
        one = Box("a", "b")
        one.put(Brake("a"))
        one.lever("low", Chain("a", "b"))
        other = Box()
        other.add_wheel("a")
        other.add_wheel("b")
        other.lever("low", Chain("a", "b"))
        other.put(Brake("a"))
        self.assertEqual(one, other)
        self.assertEqual(one, Box.read("wheels a b; brake a; lever low; chain a b 1 1"))

    def test_copies_share_nothing(self):
        for text, wheels, parts, levers in TEXTS:
            box = Box.read(text)
            other = box.copy()
            self.assert_state(other, wheels, parts, levers)
            self.assertEqual(other, box)
            other.lever("new")
            other.add_wheel("new")
            other.put(Brake("new"))
            self.assert_state(box, wheels, parts, levers)
            box.lever("more")
            self.assertEqual(other.levers, (*levers, "new"))


class AsHallTest(unittest.TestCase):
    def test_answers_are_those_of_its_own_wheels_and_parts(self):
        for seed in range(60):
            draw = random.Random(seed)
            box = drawing.box(draw)
            hall = Hall.read(box.text.split("; lever ")[0])
            text, load = box.text, drawing.load(draw, hall)
            wheel = draw.choice(hall.wheels)
            for function, rest in (
                (verdict, [load]), (bearing, [load]), (held_by, [load, wheel]),
                (state_of, [wheel]), (freedom, []), (idle, []), (seen_from, [wheel, "o"]),
                (least_form, []), (driven, [load]), (settled, [load]), (alike, [hall]),
            ):
                self.assertEqual(function(box, *rest), function(hall, *rest), (text, function))
            self.assertIs(type(seen_from(box, wheel, "o")), Hall)
            part = drawing.pawl(draw, hall.wheels)
            self.assertEqual(tried(box, part, load=load), tried(hall, part, load=load))
            turns = {name: ONE for name in hall.wheels}
            self.assertEqual(broken(box, turns), broken(hall, turns))
            self.assertEqual(box.text, text)


class TrialTest(BoxCase):
    TEXT = "wheels a b; chain a b 1 2; lever low; brake b"

    def test_everything_is_restored(self):
        box = Box.read(self.TEXT)
        with box.trial() as inner:
            self.assertIs(inner, box)
            box.lever("high", Brake("a"))
            box.add_wheel("c")
            box.put(Brake("c"))
            box.take(0)
            self.assertEqual(
                box.text, "wheels a b c; brake c; lever low; brake b; lever high; brake a"
            )
        self.assertEqual((box.text, box.levers), (self.TEXT, ("low",)))
        # Afterwards the names are free again.
        box.lever("high")
        box.add_wheel("c")
        self.assertEqual(box.levers, ("low", "high"))

    def test_without_positions_before(self):
        box = Box("a")
        with box.trial():
            box.lever("low")
        self.assertEqual((box.text, box.levers), ("wheels a", ("",)))

    def test_nested_and_ended_by_an_error(self):
        box = Box.read(self.TEXT)
        with self.assertRaises(NoLever):
            with box.trial():
                box.lever("one")
                with self.assertRaises(KeyError):
                    with box.trial():
                        box.lever("two")
                        self.assertEqual(box.levers, ("low", "one", "two"))
                        raise KeyError("two")
                self.assertEqual(box.levers, ("low", "one"))
                box.lever("three")
                with box.trial():
                    box.lever("two")
                box.at("two")
        self.assertEqual(box.text, self.TEXT)


class PlayedTest(BoxCase):
    def test_positions_among_the_steps(self):
        box = Box("a")
        texts = box.played([
            ("lever", "low", [Brake("a"), Ratchet("a")]),
            ("wheel", "b"),
            ("trial", [
                ("lever", "high", [Brake("b")]),
                ("trial", [("lever", "mid", []), ("put", Brake("a"))]),
                ("put", Brake("b")),
            ]),
            ("put", Chain("a", "b")),
            ("lever", "high", []),
            ("take", 0),
        ])
        low = "lever low; brake a; ratchet a"
        self.assertEqual(texts, [
            f"wheels a; {low}",
            f"wheels a b; {low}",
            f"wheels a b; {low}; lever high; brake b",
            f"wheels a b; {low}; lever high; brake b; lever mid",
            f"wheels a b; brake a; {low}; lever high; brake b; lever mid",
            f"wheels a b; brake b; {low}; lever high; brake b",
            f"wheels a b; chain a b 1 1; {low}",
            f"wheels a b; chain a b 1 1; {low}; lever high",
            f"wheels a b; {low}; lever high",
        ])
        self.assertEqual(box.text, texts[-1])
        self.assertTrue(right.plain(texts))

    def test_an_error_ends_it(self):
        for step, error in (
            (("lever", "low", []), Twice),
            (("lever", "Low", []), NoName),
            (("lever", "high", [None]), NoPart),
            (("lever", "high", [Brake("c")]), NoWheel),
            (("take", 0), NoPart),
        ):
            box = Box("a")
            steps = [
                ("lever", "low", [Brake("a")]),
                ("trial", [("lever", "mid", []), ("trial", [("wheel", "b"), step, ("wheel", "c")])]),
                ("wheel", "d"),
            ]
            with self.assertRaises(error):
                box.played(steps)
            # What was done outside of trials stays, what was done in them does not.
            self.assertEqual(box.text, "wheels a; lever low; brake a")

    def test_steps_are_not_changed(self):
        parts = [Brake("a")]
        steps = [("lever", "low", parts), ("trial", [("lever", "high", parts)])]
        box = Box("a")
        box.played(steps)
        parts.append(None)
        self.assertEqual(box.text, "wheels a; lever low; brake a")
        self.assertEqual(steps, [("lever", "low", parts), ("trial", [("lever", "high", parts)])])


if __name__ == "__main__":
    unittest.main()
