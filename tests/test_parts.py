"""Points [5] and [6], parts, and what point [2] says of their values."""

import inspect
import re
import unittest

from pawlhall import parts
from pawlhall.errors import NoName, NoTeeth, NoText, Twice
from pawlhall.parts import (
    Brake,
    Chain,
    Differential,
    Freewheel,
    Mesh,
    OneWay,
    Part,
    Ratchet,
)

NO_NAMES = [
    None,
    True,
    False,
    0,
    1,
    "",
    "A",
    "aB",
    "a1",
    "a b",
    " a",
    "a ",
    "a\n",
    "a-b",
    "a_b",
    "`",
    "{",
    "abcdefghi",
    b"a",
    [],
    ["a"],
    ("a",),
    {},
    {"a": 1},
    Brake("a"),
]

NO_TEETH = [
    None,
    True,
    False,
    0,
    -1,
    -999999,
    "1",
    "",
    1.0,
    (1, 1),
    (),
    [],
    [1],
    {},
    Brake("a"),
]

NO_DIRECTIONS = [None, 0, 1, -1, "", "backward", (), (True,), [], [True], {}, Brake("a")]

# For each part: its weights in order, whether it is a pawl, its text.
EXAMPLES = [
    (Mesh("a", "b"), [("a", 1), ("b", 1)], False, "mesh a b 1 1"),
    (Mesh("a", "b", 12, 30), [("a", 12), ("b", 30)], False, "mesh a b 12 30"),
    (Mesh("b", "a", 12), [("b", 12), ("a", 1)], False, "mesh b a 12 1"),
    (Mesh("a", "b", 999999, 2), [("a", 999999), ("b", 2)], False, "mesh a b 999999 2"),
    (Chain("a", "b"), [("a", 1), ("b", -1)], False, "chain a b 1 1"),
    (Chain("a", "b", 12, 30), [("a", 12), ("b", -30)], False, "chain a b 12 30"),
    (Chain("z", "b", 3), [("z", 3), ("b", -1)], False, "chain z b 3 1"),
    (
        Differential("a", "b", "c"),
        [("a", 1), ("b", 1), ("c", -2)],
        False,
        "differential a b c 1 1",
    ),
    (
        Differential("c", "b", "a", 3, 4),
        [("c", 3), ("b", 4), ("a", -7)],
        False,
        "differential c b a 3 4",
    ),
    (
        Differential("sun", "ring", "arm", 20),
        [("sun", 20), ("ring", 1), ("arm", -21)],
        False,
        "differential sun ring arm 20 1",
    ),
    (Brake("a"), [("a", 1)], False, "brake a"),
    (Brake("abcdefgh"), [("abcdefgh", 1)], False, "brake abcdefgh"),
    (Ratchet("a"), [("a", 1)], True, "ratchet a"),
    (Ratchet("a", backward=False), [("a", 1)], True, "ratchet a"),
    (Ratchet("a", backward=True), [("a", -1)], True, "ratchet a backward"),
    (Ratchet("backward"), [("backward", 1)], True, "ratchet backward"),
    (
        Ratchet("backward", backward=True),
        [("backward", -1)],
        True,
        "ratchet backward backward",
    ),
    (Freewheel("a", "b"), [("a", 1), ("b", -1)], True, "freewheel a b"),
    (Freewheel("b", "a"), [("b", 1), ("a", -1)], True, "freewheel b a"),
    (Mesh("mesh", "chain", 7, 8), [("mesh", 7), ("chain", 8)], False, "mesh mesh chain 7 8"),
]

NO_TEXTS = [
    "",
    " ",
    "a",
    "mesh",
    "brake",
    "gear a b 1 1",
    "part a",
    "oneway a",
    "Brake a",
    "BRAKE a",
    "brake A",
    "brake aB",
    "brake a1",
    "brake 1",
    "brake ",
    " brake a",
    "brake a ",
    "brake  a",
    "brake\ta",
    "brake\na",
    "brake a\n",
    "brake a;",
    "brake; a",
    "brakea",
    "brak a",
    "brakes a",
    "brake a b",
    "brake a 1",
    "brake a backward",
    "brake abcdefghi",
    "brake a; brake b",
    "mesh a b",
    "mesh a b 1",
    "mesh a b 12 30 1",
    "mesh a b c 12 30",
    "mesh a 12 30",
    "mesh a a 12 30",
    "mesh a b 012 30",
    "mesh a b 12 030",
    "mesh a b 00 30",
    "mesh a b 0 30",
    "mesh a b 12 0",
    "mesh a b +12 30",
    "mesh a b 12 +30",
    "mesh a b -12 30",
    "mesh a b 12 -30",
    "mesh a b -0 30",
    "mesh a b 1_2 30",
    "mesh a b 12.0 30",
    "mesh a b 12 30 ",
    "mesh a b  12 30",
    "mesh a b 12  30",
    "mesh a  b 12 30",
    " mesh a b 12 30",
    "mesh a b x 30",
    "mesh a b 12 True",
    "mesh a b 12/1 30",
    "mesh a b 12, 30",
    "mesh 12 30 a b",
    "mesh a b twelve 30",
    "chain a b",
    "chain a b 12",
    "chain a a 1 1",
    "chain a b 0 1",
    "chain a b 1 01",
    "chain a b c 1 1",
    "Chain a b 1 1",
    "differential a b c",
    "differential a b c 1",
    "differential a b 1 1",
    "differential a b c d 1 1",
    "differential a b c 1 1 1",
    "differential a b a 1 1",
    "differential a a b 1 1",
    "differential a b b 1 1",
    "differential a b c 0 1",
    "differential a b c 1 0",
    "differential a b c 1 01",
    "differential a b c 1 1 ",
    "differentia a b c 1 1",
    "ratchet",
    "ratchet ",
    "ratchet a forward",
    "ratchet a Backward",
    "ratchet a backwar",
    "ratchet a backwards",
    "ratchet a  backward",
    "ratchet a backward ",
    "ratchet a backward backward",
    "ratchet a b",
    "ratchet backward a",
    "ratchet a True",
    "ratchet a b backward",
    "freewheel a",
    "freewheel a a",
    "freewheel a b c",
    "freewheel a b 1 1",
    "freewheel a b backward",
    "freewheel A b",
    "freewheel a  b",
    "lever a",
    "wheels a",
    "wheels a; brake a",
]

NO_STRINGS = [
    None,
    True,
    False,
    0,
    7,
    b"brake a",
    (),
    ("brake", "a"),
    ("brake a",),
    [],
    ["brake", "a"],
    ["brake a"],
    {},
    {"brake": "a"},
    Brake("a"),
]


class OddStr(str):
    """A string of a class below str."""


class OddInt(int):
    """An integer of a class below int."""


class PartCase(unittest.TestCase):
    def assert_raises(self, error, attribute, value, make, *args, **named):
        with self.assertRaises(error) as caught:
            make(*args, **named)
        self.assertIs(type(caught.exception), error)
        self.assertIs(getattr(caught.exception, attribute), value)


class ClassesTest(PartCase):
    def test_bases(self):
        self.assertEqual(Part.__bases__, (object,))
        for below in (Mesh, Differential, Brake, OneWay):
            self.assertEqual(below.__bases__, (Part,))
        self.assertEqual(Chain.__bases__, (Mesh,))
        for below in (Ratchet, Freewheel):
            self.assertEqual(below.__bases__, (OneWay,))

    def test_what_each_part_is_an_object_of(self):
        classes = [
            (Mesh("a", "b"), (Mesh, Part)),
            (Chain("a", "b"), (Chain, Mesh, Part)),
            (Differential("a", "b", "c"), (Differential, Part)),
            (Brake("a"), (Brake, Part)),
            (Ratchet("a"), (Ratchet, OneWay, Part)),
            (Freewheel("a", "b"), (Freewheel, OneWay, Part)),
        ]
        every = (Part, Mesh, Chain, Differential, Brake, OneWay, Ratchet, Freewheel)
        for part, expected in classes:
            for one in every:
                self.assertIs(isinstance(part, one), one in expected, (part.text, one))

    def test_signatures(self):
        signatures = {
            Mesh: "(a, b, teeth=1, other_teeth=1)",
            Chain: "(a, b, teeth=1, other_teeth=1)",
            Differential: "(a, b, carrier, teeth=1, other_teeth=1)",
            Brake: "(a)",
            Ratchet: "(a, *, backward=False)",
            Freewheel: "(a, b)",
        }
        for made, signature in signatures.items():
            self.assertEqual(str(inspect.signature(made)), signature)
        self.assertEqual(str(inspect.signature(Part.read)), "(text)")
        self.assertIsInstance(inspect.getattr_static(Part, "read"), staticmethod)

    def test_each_class_has_its_own_constructor_and_properties(self):
        for made in (Mesh, Chain, Differential, Brake, Ratchet, Freewheel):
            self.assertIn("__init__", vars(made))
            for name in ("wheels", "weights", "is_pawl", "text"):
                self.assertIsInstance(vars(made)[name], property)
                self.assertIsInstance(vars(Part)[name], property)
        for name in ("read", "KINDS"):
            self.assertIn(name, vars(Part))

    def test_kinds(self):
        self.assertEqual(
            Part.KINDS,
            ("mesh", "chain", "differential", "brake", "ratchet", "freewheel"),
        )
        self.assertIs(type(Part.KINDS), tuple)
        self.assertEqual(list(Part.KINDS), [kind for kind in Part.KINDS if type(kind) is str])

    def test_classes_are_defined_in_this_file(self):
        for name in "Part Mesh Chain Differential Brake OneWay Ratchet Freewheel".split():
            self.assertEqual(getattr(parts, name).__module__, "pawlhall.parts")


class ConstructorTest(PartCase):
    def test_arguments_by_name(self):
        self.assertEqual(Mesh(a="x", b="y").text, "mesh x y 1 1")
        self.assertEqual(Mesh(other_teeth=3, teeth=2, b="y", a="x").text, "mesh x y 2 3")
        self.assertEqual(Mesh("x", "y", other_teeth=3).text, "mesh x y 1 3")
        self.assertEqual(Chain(a="x", b="y").text, "chain x y 1 1")
        self.assertEqual(Chain(other_teeth=3, teeth=2, b="y", a="x").text, "chain x y 2 3")
        self.assertEqual(Chain("x", "y", other_teeth=3).text, "chain x y 1 3")
        self.assertEqual(
            Differential(a="x", b="y", carrier="z").text, "differential x y z 1 1"
        )
        self.assertEqual(
            Differential(other_teeth=3, teeth=2, carrier="z", b="y", a="x").text,
            "differential x y z 2 3",
        )
        self.assertEqual(
            Differential("x", "y", "z", other_teeth=3).text, "differential x y z 1 3"
        )
        self.assertEqual(Brake(a="x").text, "brake x")
        self.assertEqual(Ratchet(a="x").text, "ratchet x")
        self.assertEqual(Ratchet(backward=True, a="x").text, "ratchet x backward")
        self.assertEqual(Freewheel(b="y", a="x").text, "freewheel x y")

    def test_backward_is_passed_by_name_only(self):
        with self.assertRaises(TypeError):
            Ratchet("a", True)

    def test_edges_of_names(self):
        for name in ("a", "z", "az", "abcdefgh", "zzzzzzzz", "brake", "backward"):
            self.assertEqual(Brake(name).wheels, (name,))

    def test_wrong_names(self):
        for value in NO_NAMES:
            for make in (Mesh, Chain, Freewheel):
                self.assert_raises(NoName, "name", value, make, value, "b")
                self.assert_raises(NoName, "name", value, make, "a", value)
                self.assert_raises(NoName, "name", value, make, b=value, a="a")
            for at in range(3):
                names = ["a", "b", "c"]
                names[at] = value
                self.assert_raises(NoName, "name", value, Differential, *names)
            self.assert_raises(NoName, "name", value, Brake, value)
            self.assert_raises(NoName, "name", value, Ratchet, value)
            self.assert_raises(NoName, "name", value, Ratchet, value, backward=True)

    def test_the_first_wrong_name_is_named(self):
        for value in NO_NAMES:
            for make in (Mesh, Chain, Freewheel):
                self.assert_raises(NoName, "name", value, make, value, 17)
            self.assert_raises(NoName, "name", value, Differential, value, [], "")
            self.assert_raises(NoName, "name", value, Differential, "a", value, {})

    def test_repeated_names(self):
        for make in (Mesh, Chain, Freewheel):
            self.assert_twice("a", make, "a", "a")
        self.assert_twice("a", Differential, "a", "a", "b")
        self.assert_twice("a", Differential, "a", "b", "a")
        self.assert_twice("b", Differential, "a", "b", "b")
        self.assert_twice("a", Differential, "a", "a", "a")

    def test_the_second_of_two_equal_names_is_held(self):
        first, second = OddStr("a"), OddStr("a")
        self.assert_raises(Twice, "name", second, Mesh, first, second)

    def test_wrong_teeth(self):
        for value in NO_TEETH:
            for make in (Mesh, Chain):
                self.assert_raises(NoTeeth, "value", value, make, "a", "b", value)
                self.assert_raises(NoTeeth, "value", value, make, "a", "b", 2, value)
                self.assert_raises(NoTeeth, "value", value, make, "a", "b", other_teeth=value)
                self.assert_raises(NoTeeth, "value", value, make, "a", "b", value, 0)
            self.assert_raises(NoTeeth, "value", value, Differential, "a", "b", "c", value)
            self.assert_raises(NoTeeth, "value", value, Differential, "a", "b", "c", 2, value)
            self.assert_raises(NoTeeth, "value", value, Differential, "a", "b", "c", value, "")

    def test_wrong_directions(self):
        for value in NO_DIRECTIONS:
            self.assert_raises(NoTeeth, "value", value, Ratchet, "a", backward=value)

    def test_names_are_refused_before_repetitions(self):
        self.assert_raises(NoName, "name", "B", Differential, "a", "a", "B")
        self.assert_raises(NoName, "name", None, Differential, None, "a", "a")

    def test_names_are_refused_before_teeth(self):
        for make in (Mesh, Chain):
            self.assert_raises(NoName, "name", "", make, "a", "", 0, None)
        self.assert_raises(NoName, "name", 5, Differential, "a", "b", 5, True)
        self.assert_raises(NoName, "name", "A", Ratchet, "A", backward=1)

    def test_repetitions_are_refused_before_teeth(self):
        for make in (Mesh, Chain):
            self.assert_twice("a", make, "a", "a", 0, None)
        self.assert_twice("b", Differential, "a", "b", "b", True, -1)

    def test_equal_values_that_are_no_names_are_refused_as_names(self):
        for make in (Mesh, Chain, Freewheel):
            self.assert_raises(NoName, "name", None, make, None, None)

    def test_arguments_are_not_changed(self):
        name, teeth = ["a"], [1]
        with self.assertRaises(NoName):
            Brake(name)
        with self.assertRaises(NoTeeth):
            Mesh("a", "b", teeth)
        self.assertEqual((name, teeth), (["a"], [1]))

    def assert_twice(self, name, make, *args):
        with self.assertRaises(Twice) as caught:
            make(*args)
        self.assertEqual(caught.exception.name, name)


class PropertiesTest(PartCase):
    def test_wheels(self):
        for part, weights, _, text in EXAMPLES:
            self.assertEqual(part.wheels, tuple(name for name, _ in weights), text)
            self.assertIs(type(part.wheels), tuple)
            self.assertEqual({type(name) for name in part.wheels}, {str})

    def test_weights(self):
        for part, weights, _, text in EXAMPLES:
            self.assertEqual(list(part.weights.items()), weights, text)
            self.assertIs(type(part.weights), dict)
            self.assertEqual({type(weight) for weight in part.weights.values()}, {int})

    def test_is_pawl(self):
        for part, _, is_pawl, text in EXAMPLES:
            self.assertIs(part.is_pawl, is_pawl, text)

    def test_text(self):
        for part, _, _, text in EXAMPLES:
            self.assertEqual(part.text, text)
            self.assertIs(type(part.text), str)

    def test_a_returned_dictionary_belongs_to_the_caller(self):
        for part, weights, _, text in EXAMPLES:
            given = part.weights
            self.assertIsNot(part.weights, given)
            given.clear()
            given["q"] = 5
            self.assertEqual(list(part.weights.items()), weights)
            self.assertEqual(part.text, text)

    def test_properties_cannot_be_assigned(self):
        for part, _, _, _ in EXAMPLES:
            for name in ("wheels", "weights", "is_pawl", "text"):
                with self.assertRaises(AttributeError):
                    setattr(part, name, None)

    def test_great_teeth(self):
        great = 10 ** 999
        self.assertEqual(Mesh("a", "b", great, 1).text, f"mesh a b {great} 1")
        self.assertEqual(Differential("a", "b", "c", great, great).weights["c"], -2 * great)

    def test_plain_values_for_names_and_teeth_of_classes_below(self):
        a, b, c = OddStr("a"), OddStr("b"), OddStr("c")
        made = [
            Mesh(a, b, OddInt(2), OddInt(3)),
            Chain(a, b, OddInt(2), OddInt(3)),
            Differential(a, b, c, OddInt(2), OddInt(3)),
            Brake(a),
            Ratchet(a),
            Freewheel(a, b),
        ]
        for part in made:
            self.assertEqual({type(name) for name in part.wheels}, {str})
            self.assertEqual({type(name) for name in part.weights}, {str})
            self.assertEqual({type(weight) for weight in part.weights.values()}, {int})
            self.assertIs(type(part.text), str)


class EqualityTest(PartCase):
    def test_parts_with_the_same_text_are_equal(self):
        self.assert_equal(Mesh("a", "b"), Mesh("a", "b", 1, 1))
        self.assert_equal(Chain("a", "b", 3), Chain(a="a", b="b", teeth=3, other_teeth=1))
        self.assert_equal(Differential("a", "b", "c"), Differential("a", "b", "c", 1, 1))
        self.assert_equal(Brake("a"), Brake("a"))
        self.assert_equal(Ratchet("a"), Ratchet("a", backward=False))
        self.assert_equal(Ratchet("a", backward=True), Ratchet("a", backward=True))
        self.assert_equal(Freewheel("a", "b"), Freewheel("a", "b"))

    def test_parts_are_equal_exactly_if_their_texts_are(self):
        for one, _, _, text in EXAMPLES:
            for other, _, _, other_text in EXAMPLES:
                self.assertIs(one == other, text == other_text, (text, other_text))
                self.assertIs(one != other, text != other_text, (text, other_text))

    def test_unequal_parts(self):
        self.assert_unequal(Mesh("a", "b"), Mesh("b", "a"))
        self.assert_unequal(Mesh("a", "b"), Chain("a", "b"))
        self.assert_unequal(Mesh("a", "b", 1, 2), Mesh("a", "b", 2, 4))
        self.assert_unequal(Mesh("a", "b", 1, 2), Mesh("a", "b", 2, 1))
        self.assert_unequal(Ratchet("a"), Ratchet("a", backward=True))
        self.assert_unequal(Freewheel("a", "b"), Freewheel("b", "a"))
        self.assert_unequal(Brake("a"), Brake("b"))
        self.assert_unequal(Brake("a"), Ratchet("a"))

    def test_a_part_equals_nothing_else(self):
        for part, weights, _, text in EXAMPLES:
            others = [None, True, False, 0, 1, text, text.encode(), part.wheels]
            others += [dict(weights), [part], (part,), {"a": part}, type(part), Part]
            for other in others:
                self.assert_unequal(part, other)

    def assert_equal(self, one, other):
        self.assertIs(one == other, True)
        self.assertIs(other == one, True)
        self.assertIs(one != other, False)

    def assert_unequal(self, one, other):
        self.assertIs(one == other, False)
        self.assertIs(other == one, False)
        self.assertIs(one != other, True)


class ReadTest(PartCase):
    def test_every_text_of_a_part_is_read(self):
        for part, weights, is_pawl, text in EXAMPLES:
            got = Part.read(text)
            self.assertIs(type(got), type(part))
            self.assertEqual(got, part)
            self.assertIsNot(got, part)
            self.assertEqual(got.text, text)
            self.assertEqual(list(got.weights.items()), weights)
            self.assertIs(got.is_pawl, is_pawl)

    def test_text_by_name(self):
        self.assertEqual(Part.read(text="brake a"), Brake("a"))

    def test_each_read_returns_a_new_part_from_any_class(self):
        self.assertIsNot(Part.read("brake a"), Part.read("brake a"))
        self.assertEqual(Mesh.read("brake a"), Brake("a"))

    def test_the_example_of_the_document(self):
        self.assertTrue(Part.read("ratchet a backward") == Ratchet("a", backward=True))

    def test_texts_that_are_none(self):
        for text in NO_TEXTS:
            with self.subTest(text=text):
                self.assert_raises(NoText, "value", text, Part.read, text)

    def test_what_is_no_string(self):
        for value in NO_STRINGS:
            with self.subTest(value=value):
                self.assert_raises(NoText, "value", value, Part.read, value)

    def test_digits_that_are_not_ascii(self):
        for digit in ("\u0661", "\u00b2", "\uff11"):
            text = f"mesh a b {digit} 1"
            self.assert_raises(NoText, "value", text, Part.read, text)

    def test_every_text_with_one_character_less(self):
        for _, _, _, text in EXAMPLES:
            for at in range(len(text)):
                self.assert_read_or_refused(text[:at] + text[at + 1:])

    def test_every_text_with_one_character_more_or_exchanged(self):
        for _, _, _, text in EXAMPLES:
            for at in range(len(text) + 1):
                for sign in " a0-+A;\n":
                    self.assert_read_or_refused(text[:at] + sign + text[at:])
                    self.assert_read_or_refused(text[:at] + sign + text[at + 1:])

    def test_every_text_with_a_word_less_more_or_exchanged(self):
        for _, _, _, text in EXAMPLES:
            words = text.split()
            for at in range(len(words) + 1):
                self.assert_read_or_refused(" ".join(words[:at] + words[at + 1:]))
                for word in ("a", "q", "1", "0", "backward", "brake", ""):
                    self.assert_read_or_refused(" ".join(words[:at] + [word] + words[at:]))
                    self.assert_read_or_refused(" ".join(words[:at] + [word] + words[at + 1:]))

    def assert_read_or_refused(self, text):
        """An independent account of which texts there are decides."""
        if is_text_of_a_part(text):
            self.assertEqual(Part.read(text).text, text)
        else:
            self.assert_raises(NoText, "value", text, Part.read, text)


def is_text_of_a_part(text):
    name, teeth = "[a-z]{1,8}", "[1-9][0-9]*"
    shapes = [
        f"(mesh|chain) {name} {name} {teeth} {teeth}",
        f"differential {name} {name} {name} {teeth} {teeth}",
        f"brake {name}",
        f"ratchet {name}( backward)?",
        f"freewheel {name} {name}",
    ]
    if not any(re.fullmatch(shape, text) for shape in shapes):
        return False
    names = [word for word in text.split(" ")[1:] if word.isalpha()]
    if text.startswith("ratchet "):
        names = names[:1]
    return len(set(names)) == len(names)


if __name__ == "__main__":
    unittest.main()
