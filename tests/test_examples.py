"""The section "Examples" of the document, as far as it speaks of what is here."""

import unittest

from pawlhall.errors import NoFraction, NoText, Twice
from pawlhall.halls import Hall
from pawlhall.loads import bearing, held_by, verdict
from pawlhall.numbers import fraction, total
from pawlhall.parts import Chain, Differential, Part, Ratchet


class ExamplesTest(unittest.TestCase):
    def test_numbers(self):
        self.assertEqual(fraction(6, -4), (-3, 2))
        self.assertEqual(total((1, 2), (1, 3)), (5, 6))
        with self.assertRaises(NoFraction) as caught:
            total((2, 4))
        self.assertEqual(caught.exception.value, (2, 4))

    def test_parts(self):
        self.assertEqual(Chain("a", "b", 3).text, "chain a b 3 1")
        self.assertEqual(Differential("a", "b", "c").weights, {"a": 1, "b": 1, "c": -2})
        self.assertEqual(Part.read("ratchet a backward"), Ratchet("a", backward=True))
        with self.assertRaises(Twice) as caught:
            Chain("a", "a")
        self.assertEqual(caught.exception.name, "a")

    def test_halls(self):
        self.assertEqual(Hall.read("wheels a b; mesh a b 1 2").wheels, ("a", "b"))
        with self.assertRaises(NoText):
            Hall.read("wheels a; brake b")

    def test_loads(self):
        pawl, pawls = Hall.read("wheels a; ratchet a"), Hall.read("wheels a; ratchet a; ratchet a")
        mesh = Hall.read("wheels a b; mesh a b 1 2")
        self.assertEqual(verdict(pawl, {"a": (-1, 1)}), ("holds", [(1, 1)]))
        self.assertEqual(verdict(mesh, {"a": (1, 1)})[0], "drops")
        self.assertEqual(bearing(pawls, {"a": (-1, 1)})[0], "holds")
        self.assertEqual(held_by(mesh, {"a": (1, 1)}, "b")[0], "between")
        self.assertEqual(held_by(Hall("a", "b"), {"a": (1, 1)}, "b")[0], "never")


if __name__ == "__main__":
    unittest.main()
