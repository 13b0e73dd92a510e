"""Points [7] and [8], halls, trials and what is played, and what point [2] says of them."""

import unittest

from pawlhall.errors import HallError, NoName, NoPart, NoText, NoWheel, Twice
from pawlhall.halls import Hall
from pawlhall.parts import Brake, Chain, Differential, Freewheel, Mesh, Ratchet
from right import JUNK, plain

NO_NAMES = [
    None, True, False, 0, 1, "", "A", "aB", "a1", "a b", " a", "a ", "a-b", "abcdefghi",
    (), ("a",), [], ["a"], {}, {"a": 1}, Brake("a"),
]

NO_PARTS = JUNK + ["brake a", ("brake", "a"), [Brake("a")], {"a": Brake("a")}, Brake]

NO_NUMBERS = [
    None, True, False, -1, -2, 3, 4, 10**12, -(10**12), "", "0", "1", "a", 1.0, (), (0,), (0, 1),
    [], [0], {}, {0: 1}, Brake("a"),
]

# For each text: its wheels and its parts.
TEXTS = [
    ("wheels", (), ()),
    ("wheels a", ("a",), ()),
    ("wheels b a", ("b", "a"), ()),
    ("wheels wheels brake", ("wheels", "brake"), ()),
    ("wheels a; brake a", ("a",), (Brake("a"),)),
    ("wheels a; brake a; brake a", ("a",), (Brake("a"), Brake("a"))),
    ("wheels a b; mesh b a 12 30", ("a", "b"), (Mesh("b", "a", 12, 30),)),
    ("wheels a b; chain a b 1 999999", ("a", "b"), (Chain("a", "b", 1, 999999),)),
    (
        "wheels a b c; differential c a b 2 3; ratchet c",
        ("a", "b", "c"),
        (Differential("c", "a", "b", 2, 3), Ratchet("c")),
    ),
    (
        "wheels abcdefgh backward; ratchet backward backward; freewheel backward abcdefgh",
        ("abcdefgh", "backward"),
        (Ratchet("backward", backward=True), Freewheel("backward", "abcdefgh")),
    ),
    (
        "wheels a b c d e f g h i j; brake j",
        ("a", "b", "c", "d", "e", "f", "g", "h", "i", "j"),
        (Brake("j"),),
    ),
]

NO_TEXTS = [
    "",
    " ",
    ";",
    "; ",
    "a",
    "wheel",
    "wheel a",
    "Wheels a",
    "WHEELS",
    "hall a",
    "brake a",
    "wheels ",
    " wheels",
    "wheels a ",
    " wheels a",
    "wheels  a",
    "wheels a  b",
    "wheels\ta",
    "wheels a\n",
    "wheels a, b",
    "wheels a a",
    "wheels a b a",
    "wheels A",
    "wheels a1",
    "wheels abcdefghi",
    "wheels a;",
    "wheels a; ",
    "wheels a;brake a",
    "wheels a ;brake a",
    "wheels a ; brake a",
    "wheels a;  brake a",
    "wheels a; brake a ",
    "wheels a; brake a;",
    "wheels a; brake a; ",
    "wheels a; ; brake a",
    "wheels a; brake  a",
    "wheels a; brake",
    "wheels a; brake b",
    "wheels; brake a",
    "wheels a; brake a a",
    "wheels a; brakes a",
    "wheels a; Brake a",
    "brake a; wheels a",
    "wheels a; wheels b",
    "wheels a; wheels",
    "wheels a b; mesh a b",
    "wheels a b; mesh a b 1",
    "wheels a b; mesh a b 1 2 3",
    "wheels a b; mesh a b 1 0",
    "wheels a b; mesh a b 1 -2",
    "wheels a b; mesh a b 1 02",
    "wheels a b; mesh a b 1 +2",
    "wheels a b; mesh 1 2 a b",
    "wheels a b; mesh a c 1 2",
    "wheels a b; mesh a a 1 2",
    "wheels a b c; differential a b 1 1",
    "wheels a b; differential a b c 1 1",
    "wheels a; ratchet a forward",
    "wheels a; ratchet backward",
    "wheels a b; freewheel a",
    "wheels a b; freewheel a b 1 1",
    "wheels a; lever low",
    "wheels a; brake a; lever low",
    "wheels a; lever low; brake a",
    "wheels a; tie 1",
    "wheels a; brake a. brake a",
    "form a",
    None,
    True,
    False,
    0,
    1,
    b"wheels a",
    (),
    ("wheels a",),
    [],
    ["wheels", "a"],
    {},
    {"wheels": "a"},
    Brake("a"),
]


def state(hall):
    return hall.wheels, [part.text for part in hall.parts], hall.text, len(hall)


class HallCase(unittest.TestCase):
    def assert_state(self, hall, wheels, parts):
        self.assertEqual(hall.wheels, wheels)
        self.assertEqual(hall.parts, parts)
        self.assertEqual(len(hall), len(parts))
        items = [" ".join(("wheels",) + wheels)] + [part.text for part in parts]
        self.assertEqual(hall.text, "; ".join(items))

    def assert_raises(self, error, name, value, function, *args, **more):
        """The error has exactly this value: the very object where it is no small one."""
        with self.assertRaises(error) as caught:
            function(*args, **more)
        self.assertIs(type(caught.exception), error)
        self.assertIs(getattr(caught.exception, name), value)


class InterfaceTest(unittest.TestCase):
    def test_the_class_itself_has_its_methods(self):
        self.assertEqual(Hall.__module__, "pawlhall.halls")
        for name in "add_wheel put take wheels parts text copy read trial played".split():
            self.assertIn(name, vars(Hall))
        for name in ("__init__", "__eq__", "__len__", "MOST_WHEELS"):
            self.assertIn(name, vars(Hall))

    def test_most_wheels(self):
        self.assertEqual((Hall.MOST_WHEELS, Hall("a").MOST_WHEELS), (8, 8))
        self.assertIs(type(Hall.MOST_WHEELS), int)
        self.assertEqual(len(Hall(*"abcdefghijkl").wheels), 12)

    def test_arguments_by_name(self):
        hall = Hall.read(text="wheels a")
        hall.add_wheel(name="b")
        self.assertEqual(hall.put(part=Freewheel("a", "b")), 0)
        self.assertEqual(hall.put(part=Brake("a")), 1)
        hall.take(number=0)
        self.assertEqual(hall.played(steps=[("take", 0)]), ["wheels a b"])
        self.assertEqual(hall.text, "wheels a b")


class CreatedTest(HallCase):
    def test_wheels_in_order_and_no_parts(self):
        self.assert_state(Hall(), (), ())
        self.assert_state(Hall("a"), ("a",), ())
        self.assert_state(Hall("c", "abcdefgh", "b"), ("c", "abcdefgh", "b"), ())

    def test_no_name(self):
        for value in NO_NAMES:
            self.assert_raises(NoName, "name", value, Hall, value)
            self.assert_raises(NoName, "name", value, Hall, "a", "b", value, "c")
            self.assert_raises(NoName, "name", value, Hall("a").add_wheel, value)

    def test_no_name_comes_first(self):
        bad = ["a"]
        self.assert_raises(NoName, "name", bad, Hall, "a", "a", bad, "", "b", "b")

    def test_twice(self):
        first, second = "".join(["xy", "z"]), "".join(["x", "yz"])
        self.assert_raises(Twice, "name", second, Hall, first, second)
        with self.assertRaises(Twice) as caught:
            Hall("a", "b", "c", "b", "a")
        self.assertEqual(caught.exception.name, "b")


class DeedsTest(HallCase):
    def test_after_each_deed(self):
        hall = Hall("a", "b")
        mesh, brake, pawl = Mesh("a", "b", 2, 3), Brake("b"), Ratchet("c", backward=True)
        self.assertIsNone(hall.add_wheel("c"))
        self.assert_state(hall, ("a", "b", "c"), ())
        self.assertEqual(hall.put(mesh), 0)
        self.assert_state(hall, ("a", "b", "c"), (mesh,))
        self.assertEqual(hall.put(brake), 1)
        self.assertEqual(hall.put(pawl), 2)
        self.assertEqual(hall.put(mesh), 3)
        self.assert_state(hall, ("a", "b", "c"), (mesh, brake, pawl, mesh))
        self.assertIsNone(hall.take(1))
        self.assert_state(hall, ("a", "b", "c"), (mesh, pawl, mesh))
        hall.add_wheel("ab")
        self.assertEqual(hall.put(Freewheel("ab", "a")), 3)
        hall.take(0)
        self.assert_state(hall, ("a", "b", "c", "ab"), (pawl, mesh, Freewheel("ab", "a")))
        hall.take(2)
        hall.take(0)
        self.assert_state(hall, ("a", "b", "c", "ab"), (mesh,))
        hall.take(0)
        self.assert_state(hall, ("a", "b", "c", "ab"), ())
        self.assertEqual(hall.put(brake), 0)

    def test_without_wheels(self):
        hall = Hall()
        self.assert_raises(NoWheel, "name", "a", hall.put, Brake("a"))
        self.assert_raises(NoPart, "part", 0, hall.take, 0)
        hall.add_wheel("a")
        self.assertEqual(hall.put(Brake("a")), 0)

    def test_kinds_of_values(self):
        class Name(str):
            pass

        class Number(int):
            pass

        hall = Hall(Name("a"), "b")
        hall.add_wheel(Name("c"))
        self.assertIs(type(hall.put(Brake("a"))), int)
        hall.put(Brake("b"))
        hall.take(Number(0))
        self.assertEqual(hall.text, "wheels a b c; brake b")
        self.assertTrue(plain(hall.wheels) and plain(hall.text) and plain(len(hall)))
        self.assertIs(type(hall.parts), tuple)

    def test_add_wheel_errors(self):
        hall = Hall.read("wheels ab; brake ab")
        again = "".join(["a", "b"])
        self.assert_raises(Twice, "name", again, hall.add_wheel, again)
        self.assertEqual(hall.text, "wheels ab; brake ab")

    def test_put_errors(self):
        hall = Hall.read("wheels a b; brake a")
        for value in NO_PARTS:
            self.assert_raises(NoPart, "part", value, hall.put, value)
        for part, name in (
            (Brake("c"), "c"),
            (Freewheel("a", "c"), "c"),
            (Mesh("d", "c"), "d"),
            (Differential("a", "d", "c"), "d"),
            (Differential("b", "a", "c"), "c"),
        ):
            with self.assertRaises(NoWheel) as caught:
                hall.put(part)
            self.assertEqual(caught.exception.name, name)
        self.assert_state(hall, ("a", "b"), (Brake("a"),))

    def test_take_errors(self):
        hall = Hall.read("wheels a; brake a; ratchet a; brake a")
        for value in NO_NUMBERS:
            self.assert_raises(NoPart, "part", value, hall.take, value)
        self.assertEqual(hall.text, "wheels a; brake a; ratchet a; brake a")

    def test_parts_are_not_taken_by_their_value(self):
        hall = Hall.read("wheels a; brake a; ratchet a; brake a")
        hall.take(2)
        self.assertEqual(hall.text, "wheels a; brake a; ratchet a")


class CopyTest(HallCase):
    def test_nothing_is_shared(self):
        hall = Hall.read("wheels a b; freewheel a b; brake b")
        other = hall.copy()
        self.assertIs(type(other), Hall)
        self.assertEqual(state(other), state(hall))
        for one, two in zip(hall.parts, other.parts):
            self.assertIsNot(one, two)
        other.take(0)
        other.add_wheel("c")
        self.assertEqual(hall.text, "wheels a b; freewheel a b; brake b")
        self.assertEqual(other.text, "wheels a b c; brake b")
        hall.put(Ratchet("a"))
        hall.add_wheel("d")
        self.assertEqual(other.text, "wheels a b c; brake b")
        self.assertEqual(Hall().copy().text, "wheels")

    def test_within_a_trial(self):
        hall = Hall("a")
        with hall.trial() as inner:
            inner.put(Brake("a"))
            other = inner.copy()
        self.assertEqual((hall.text, other.text), ("wheels a", "wheels a; brake a"))
        other.put(Ratchet("a"))
        self.assertEqual((hall.text, len(other)), ("wheels a", 2))


class EqualTest(unittest.TestCase):
    def test_exactly_for_equal_texts(self):
        texts = [text for text, _, _ in TEXTS] + [
            "wheels a b",
            "wheels ab",
            "wheels a; ratchet a",
            "wheels a; ratchet a; brake a",
            "wheels a; brake a; ratchet a",
            "wheels b a; mesh b a 12 30",
            "wheels a b; mesh a b 30 12",
            "wheels a b; mesh b a 12 31",
        ]
        for one in texts:
            for two in texts:
                self.assertIs(Hall.read(one) == Hall.read(two), one == two)
                self.assertIs(Hall.read(one) != Hall.read(two), one != two)

    def test_things_that_are_no_halls(self):
        hall = Hall.read("wheels a; brake a")
        for other in JUNK + [hall.text, hall.parts, Brake("a"), Hall, [hall]]:
            self.assertIs(hall == other, False)
            self.assertIs(other == hall, False)
            self.assertIs(hall != other, True)

    def test_however_it_is_made(self):
        hall = Hall()
        hall.add_wheel("a")
        hall.put(Brake("a"))
        hall.add_wheel("b")
        hall.put(Freewheel("b", "a"))
        other = Hall("a", "b")
        other.put(Brake("a"))
        other.put(Freewheel("b", "a"))
        self.assertEqual(hall, other)
        self.assertEqual(hall, Hall.read("wheels a b; brake a; freewheel b a"))
        other.take(0)
        self.assertNotEqual(hall, other)


class ReadTest(HallCase):
    def test_texts(self):
        for text, wheels, parts in TEXTS:
            hall = Hall.read(text)
            self.assertIs(type(hall), Hall)
            self.assert_state(hall, wheels, parts)
            self.assertEqual(hall.text, text)

    def test_texts_that_are_none(self):
        for value in NO_TEXTS:
            self.assert_raises(NoText, "value", value, Hall.read, value)

    def test_items_exchanged_left_out_or_doubled(self):
        text = "wheels a b c; differential a b c 1 2; ratchet c backward; freewheel a b"
        words = text.split(" ")
        for at in range(len(words)):
            for other in (
                words[:at] + words[at + 1 :],
                words[:at] + [words[at]] + words[at:],
                words[:at] + [""] + words[at:],
                words[:at] + words[at + 1 : at + 2] + words[at : at + 1] + words[at + 2 :],
            ):
                changed = " ".join(other)
                try:
                    found = Hall.read(changed).text
                except NoText:
                    continue
                self.assertEqual(found, changed)
        self.assertRaises(NoText, Hall.read, text.replace("; ", ", "))

    def test_a_long_text(self):
        names = [one + two for one in "abcdefghij" for two in "abcdefghij"]
        text = "; ".join([" ".join(["wheels"] + names)] + ["brake " + name for name in names])
        hall = Hall.read(text)
        self.assertEqual((len(hall.wheels), len(hall), hall.text), (100, 100, text))

    def test_great_numbers_of_teeth(self):
        text = "wheels a b; mesh a b 1 " + "9" * 999
        self.assertEqual(Hall.read(text).text, text)


class TrialTest(HallCase):
    def test_everything_is_restored(self):
        hall = Hall.read("wheels a b; brake a; ratchet b")
        before = state(hall)
        with hall.trial() as inner:
            self.assertIs(inner, hall)
            self.assertEqual(state(hall), before)
            self.assertEqual(inner.put(Freewheel("a", "b")), 2)
            inner.take(0)
            inner.add_wheel("c")
            inner.put(Brake("c"))
            self.assertEqual(
                hall.text, "wheels a b c; ratchet b; freewheel a b; brake c"
            )
        self.assertEqual(state(hall), before)
        hall.put(Brake("b"))
        self.assertEqual(len(hall), 3)

    def test_nested(self):
        hall = Hall("a")
        with hall.trial():
            hall.put(Brake("a"))
            with hall.trial() as inner:
                inner.take(0)
                inner.add_wheel("b")
                with hall.trial():
                    hall.put(Brake("b"))
                    hall.add_wheel("c")
                self.assertEqual(hall.text, "wheels a b")
            self.assertEqual(hall.text, "wheels a; brake a")
            with hall.trial():
                hall.put(Ratchet("a"))
            self.assertEqual(hall.text, "wheels a; brake a")
        self.assertEqual(hall.text, "wheels a")

    def test_an_error_goes_on(self):
        hall = Hall.read("wheels a; brake a")
        error = KeyError("x")
        with self.assertRaises(KeyError) as caught:
            with hall.trial():
                hall.add_wheel("b")
                with hall.trial():
                    hall.take(0)
                    raise error
        self.assertIs(caught.exception, error)
        self.assertEqual(hall.text, "wheels a; brake a")
        with self.assertRaises(NoWheel):
            with hall.trial():
                hall.take(0)
                hall.put(Brake("z"))
        self.assertEqual(hall.text, "wheels a; brake a")

    def test_a_block_that_is_left(self):
        hall = Hall("a")

        def left():
            for _ in range(2):
                with hall.trial():
                    hall.put(Brake("a"))
                    continue
            with hall.trial():
                hall.put(Brake("a"))
                return len(hall)

        self.assertEqual((left(), hall.text), (1, "wheels a"))

    def test_restores_what_was_there_when_the_block_began(self):
        hall = Hall("a")
        later = hall.trial()
        hall.put(Brake("a"))
        with later:
            hall.take(0)
        self.assertEqual(hall.text, "wheels a; brake a")
        hall.put(Ratchet("a"))
        with later:
            hall.take(0)
        self.assertEqual(hall.text, "wheels a; brake a; ratchet a")

    def test_a_trial_touches_its_hall_only(self):
        hall = Hall("a")
        other = hall.copy()
        with hall.trial():
            other.put(Brake("a"))
            hall.put(Ratchet("a"))
        self.assertEqual((hall.text, other.text), ("wheels a", "wheels a; brake a"))


class PlayedTest(HallCase):
    def test_each_kind_of_step(self):
        hall = Hall("a")
        steps = [
            ("put", Brake("a")),
            ("wheel", "b"),
            ("put", Freewheel("b", "a")),
            ("take", 0),
        ]
        told = hall.played(steps)
        self.assertEqual(
            told,
            [
                "wheels a; brake a",
                "wheels a b; brake a",
                "wheels a b; brake a; freewheel b a",
                "wheels a b; freewheel b a",
            ],
        )
        self.assertTrue(plain(told))
        self.assertEqual(hall.text, told[-1])
        self.assertEqual(len(steps), 4)
        self.assertEqual(hall.played([]), [])
        self.assertEqual(hall.text, told[-1])

    def test_blocks(self):
        hall = Hall("a")
        told = hall.played(
            [
                ("put", Brake("a")),
                (
                    "trial",
                    [
                        ("take", 0),
                        ("trial", [("wheel", "b"), ("trial", [("put", Brake("b"))]), ("wheel", "c")]),
                        ("put", Ratchet("a")),
                    ],
                ),
                ("trial", []),
                ("wheel", "d"),
            ]
        )
        self.assertEqual(
            told,
            [
                "wheels a; brake a",
                "wheels a",
                "wheels a b",
                "wheels a b; brake b",
                "wheels a b c",
                "wheels a; ratchet a",
                "wheels a d; brake a",
            ],
        )
        self.assertEqual(hall.text, "wheels a d; brake a")

    def test_steps_are_not_changed(self):
        part = Brake("a")
        inner = [("put", part), ("take", 0)]
        steps = [("trial", inner), ("put", part)]
        Hall("a").played(steps)
        self.assertEqual(steps, [("trial", [("put", part), ("take", 0)]), ("put", part)])
        self.assertIs(steps[0][1], inner)

    def test_an_error_ends_it(self):
        for step, error in (
            (("put", None), NoPart),
            (("put", Brake("z")), NoWheel),
            (("take", 5), NoPart),
            (("take", True), NoPart),
            (("wheel", "A"), NoName),
            (("wheel", "a"), Twice),
        ):
            hall = Hall("a")
            with self.assertRaises(error):
                hall.played([("put", Brake("a")), ("wheel", "b"), step, ("wheel", "c")])
            self.assertEqual(hall.text, "wheels a b; brake a")
            with self.assertRaises(error):
                hall.played(
                    [
                        ("take", 0),
                        ("trial", [("wheel", "d")]),
                        ("trial", [("wheel", "e"), ("trial", [("wheel", "f"), step])]),
                        ("wheel", "g"),
                    ]
                )
            self.assertEqual(hall.text, "wheels a b")

    def test_the_value_of_the_error(self):
        value = [None]
        self.assert_raises(NoPart, "part", value, Hall("a").played, [("put", value)])
        self.assert_raises(NoPart, "part", value, Hall("a").played, [("trial", [("take", value)])])
        self.assert_raises(NoName, "name", value, Hall("a").played, [("wheel", value)])

    def test_sixty_steps(self):
        hall = Hall("a")
        told = hall.played([("put", Brake("a")) for _ in range(60)])
        self.assertEqual([text.count("brake") for text in told], list(range(1, 61)))

    def test_the_errors_are_errors_of_the_hall(self):
        with self.assertRaises(HallError):
            Hall("a").played([("take", 0)])


if __name__ == "__main__":
    unittest.main()
