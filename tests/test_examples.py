"""The section "Examples" of the document."""

import unittest

from pawlhall.boxes import Box, fewest
from pawlhall.drives import Drive
from pawlhall.elementary import elementary, parted
from pawlhall.errors import Loose, NoFraction, NoText, Twice
from pawlhall.forms import Form, alike, least_form
from pawlhall.halls import Hall
from pawlhall.loads import bearing, held_by, verdict
from pawlhall.numbers import fraction, total
from pawlhall.parts import Chain, Differential, Part, Ratchet
from pawlhall.texts import read_turns, turns_text
from pawlhall.wheels import freedom, idle, ratio, seen_from, state_of
from pawlhall.wishes import driven, most, settled


class ExamplesTest(unittest.TestCase):
    def test_numbers(self):
        self.assertEqual(fraction(6, -4), (-3, 2))
        self.assertEqual(total((1, 2), (1, 3)), (5, 6))
        with self.assertRaises(NoFraction) as caught:
            total((2, 4))
        self.assertEqual(caught.exception.value, (2, 4))

    def test_parts(self):
        self.assertEqual(Chain("a", "b", 3).text, "chain a b 3 1")
        self.assertEqual(Differential("a", "b", "c").weights, {"a": 1, "b": 1, "c": -2})
        self.assertEqual(Part.read("ratchet a backward"), Ratchet("a", backward=True))
        with self.assertRaises(Twice) as caught:
            Chain("a", "a")
        self.assertEqual(caught.exception.name, "a")

    def test_halls(self):
        self.assertEqual(Hall.read("wheels a b; mesh a b 1 2").wheels, ("a", "b"))
        with self.assertRaises(NoText):
            Hall.read("wheels a; brake b")

    def test_loads(self):
        pawl, pawls = Hall.read("wheels a; ratchet a"), Hall.read("wheels a; ratchet a; ratchet a")
        mesh = Hall.read("wheels a b; mesh a b 1 2")
        self.assertEqual(verdict(pawl, {"a": (-1, 1)}), ("holds", [(1, 1)]))
        self.assertEqual(verdict(mesh, {"a": (1, 1)})[0], "drops")
        self.assertEqual(bearing(pawls, {"a": (-1, 1)})[0], "holds")
        self.assertEqual(held_by(mesh, {"a": (1, 1)}, "b")[0], "between")
        self.assertEqual(held_by(Hall("a", "b"), {"a": (1, 1)}, "b")[0], "never")

    def test_wheels(self):
        self.assertEqual(state_of(Hall.read("wheels a; ratchet a"), "a"), "forward")
        self.assertEqual(ratio(Hall.read("wheels a b; mesh a b 1 2"), "a", "b"), (-1, 2))
        self.assertEqual(freedom(Hall.read("wheels a b c; differential a b c 1 1")), 2)
        self.assertEqual(idle(Hall.read("wheels a b; freewheel a b; brake b; ratchet a")), [0, 2])
        self.assertEqual(seen_from(Hall.read("wheels a; brake a"), "a", "o").wheels, ("a", "o"))

    def test_forms(self):
        chains = Hall.read("wheels a b c; chain a b 2 1; chain b c 3 1")
        self.assertEqual(least_form(chains, ("a", "c")).text, "form a c; tie 6 -1")
        freewheels = Hall.read("wheels a b c; freewheel a b; freewheel b c")
        self.assertEqual(least_form(freewheels, ("a", "c")).text, "form a c; pawl 1 -1")
        both = Hall.read("wheels a b; freewheel a b; freewheel b a")
        self.assertEqual(least_form(both).text, "form a b; tie 1 -1")
        with self.assertRaises(NoText):
            Form.read("form a b; tie 2 -2")
        self.assertEqual(alike(Hall.read("wheels a; ratchet a"), Hall("a"))[:2], ("unlike", 1))

    def test_wishes(self):
        mesh, pawl = Hall.read("wheels a b; mesh a b 1 2"), Hall.read("wheels a; ratchet a")
        freewheel = Hall.read("wheels a b; freewheel a b")
        motion = {"a": (1, 1), "b": (-1, 2)}
        self.assertEqual(driven(mesh, {"a": (1, 1)}), ("runs", motion))
        self.assertEqual(driven(pawl, {"a": (-1, 1)})[0], "stuck")
        self.assertEqual(most(freewheel, {"a": (1, 1)}, "b")[:2], ("most", (1, 1)))
        self.assertEqual(most(freewheel, {"a": (1, 1)}, "b", backward=True)[0], "endless")
        chain = Hall.read("wheels a b c; chain a b 1 1")
        self.assertEqual(settled(chain, {"a": (2, 1)}), {"a": (2, 1), "b": (2, 1)})

    def test_boxes(self):
        box = Box.read("wheels a b; lever low; brake b; lever high; brake a")
        plan = {"low": {"a": (1, 1), "b": (0, 1)}}
        self.assertEqual(fewest(box, {"a": (1, 1)}), ("reached", plan))

    def test_drives(self):
        drive = Drive(Hall.read("wheels a b; mesh a b 1 2"))
        self.assertEqual(drive.turn({"b": (1, 1)}), {"a": (-2, 1), "b": (1, 1)})
        with self.assertRaises(Loose) as caught:
            Drive(Hall("a", "b")).turn({"a": (1, 1)})
        self.assertEqual(caught.exception.names, ("b",))

    def test_elementary(self):
        self.assertEqual([turns["a"] for turns in elementary(Hall("a"))], [(-1, 1), (1, 1)])
        hall = Hall.read("wheels a b; freewheel a b; ratchet b")
        told = [
            ((1, 1), {"a": (1, 1), "b": (1, 1)}),
            ((2, 1), {"a": (1, 1), "b": (0, 1)}),
        ]
        self.assertEqual(sorted(parted(hall, {"a": (3, 1), "b": (1, 1)})), told)

    def test_texts(self):
        self.assertEqual(turns_text({"a": (1, 1), "b": (-2, 3)}), "a=1, b=-2/3")
        with self.assertRaises(NoText):
            read_turns("a=1, a=2")


if __name__ == "__main__":
    unittest.main()
