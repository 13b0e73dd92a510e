"""Point [4], numbers, and what point [2] says of integers and fractions."""

import copy
import inspect
import random
import unittest
from fractions import Fraction

from pawlhall.errors import NoFraction
from pawlhall.numbers import fraction, product, total
from pawlhall.parts import Brake

NO_INTEGERS = [
    None,
    True,
    False,
    "1",
    "",
    b"1",
    1.0,
    [],
    [1],
    {},
    {"a": 1},
    (),
    (1,),
    (1, 1),
    Brake("a"),
]

NO_FRACTIONS = [
    None,
    True,
    False,
    0,
    1,
    -3,
    "1",
    "",
    "1/2",
    "ab",
    [],
    [1, 2],
    {},
    {1: 2, 3: 4},
    (),
    (1,),
    (1, 2, 3),
    (2, 4),
    (0, 2),
    (-3, 6),
    (1, 0),
    (0, 0),
    (1, -1),
    (0, -1),
    (-1, -2),
    (True, 1),
    (False, 1),
    (1, True),
    (0, True),
    (None, 1),
    (1, None),
    ("1", 1),
    ("1", "2"),
    (1.0, 1),
    ((1, 1), (1, 1)),
    ([1], 2),
    Brake("a"),
]


class OddInt(int):
    """An integer of a class below int."""


class OddTuple(tuple):
    """A tuple of a class below tuple."""


class FractionCase(unittest.TestCase):
    def assert_fraction(self, got, expected):
        self.assertEqual(got, expected)
        self.assertIs(type(got), tuple)
        self.assertIs(type(got[0]), int)
        self.assertIs(type(got[1]), int)

    def assert_no_fraction(self, value, function, *args, **named):
        with self.assertRaises(NoFraction) as caught:
            function(*args, **named)
        self.assertIs(type(caught.exception), NoFraction)
        self.assertIs(caught.exception.value, value)


class FractionTest(FractionCase):
    def test_ordinary_fractions(self):
        self.assert_fraction(fraction(6, -4), (-3, 2))
        self.assert_fraction(fraction(1, 2), (1, 2))
        self.assert_fraction(fraction(2, 4), (1, 2))
        self.assert_fraction(fraction(-6, 4), (-3, 2))
        self.assert_fraction(fraction(-6, -4), (3, 2))
        self.assert_fraction(fraction(12, 4), (3, 1))

    def test_zero(self):
        for bottom in (1, -1, 5, -5, 10 ** 999):
            self.assert_fraction(fraction(0, bottom), (0, 1))

    def test_the_bottom_may_be_left_out(self):
        self.assert_fraction(fraction(7), (7, 1))
        self.assert_fraction(fraction(-7), (-7, 1))
        self.assert_fraction(fraction(0), (0, 1))

    def test_arguments_by_name(self):
        self.assert_fraction(fraction(top=6, bottom=-4), (-3, 2))
        self.assert_fraction(fraction(bottom=3, top=9), (3, 1))
        self.assert_fraction(fraction(top=4), (4, 1))
        self.assertEqual(str(inspect.signature(fraction)), "(top, bottom=1)")

    def test_great_numbers(self):
        great = 10 ** 999 + 7
        self.assert_fraction(fraction(great, 1), (great, 1))
        self.assert_fraction(fraction(6 * great, -4 * great), (-3, 2))
        self.assert_fraction(fraction(-great, great + 1), (-great, great + 1))
        self.assert_fraction(fraction(10 ** 999, 10 ** 998), (10, 1))

    def test_against_the_fractions_of_python(self):
        for top in range(-24, 25):
            for bottom in list(range(-24, 0)) + list(range(1, 25)):
                expected = Fraction(top, bottom)
                self.assert_fraction(
                    fraction(top, bottom), (expected.numerator, expected.denominator)
                )

    def test_integers_of_classes_below_int_give_plain_ones(self):
        self.assert_fraction(fraction(OddInt(3)), (3, 1))
        self.assert_fraction(fraction(OddInt(3), OddInt(7)), (3, 7))
        self.assert_fraction(fraction(OddInt(0), OddInt(-1)), (0, 1))

    def test_wrong_top(self):
        for value in NO_INTEGERS:
            self.assert_no_fraction(value, fraction, value)
            self.assert_no_fraction(value, fraction, value, 2)
            self.assert_no_fraction(value, fraction, top=value, bottom=2)

    def test_wrong_bottom(self):
        for value in NO_INTEGERS + [0]:
            self.assert_no_fraction(value, fraction, 3, value)
            self.assert_no_fraction(value, fraction, 0, value)
            self.assert_no_fraction(value, fraction, bottom=value, top=3)

    def test_the_first_wrong_argument_is_named(self):
        for value in NO_INTEGERS:
            self.assert_no_fraction(value, fraction, value, 0)
            self.assert_no_fraction(value, fraction, value, "other")
            self.assert_no_fraction(value, fraction, bottom=[], top=value)


class TotalTest(FractionCase):
    def test_no_one_and_many_arguments(self):
        self.assert_fraction(total(), (0, 1))
        self.assert_fraction(total((-3, 7)), (-3, 7))
        self.assert_fraction(total((1, 2), (1, 3)), (5, 6))
        self.assert_fraction(total((1, 2), (1, 2)), (1, 1))
        self.assert_fraction(total((1, 2), (-1, 2)), (0, 1))
        self.assert_fraction(total((1, 6), (1, 3), (1, 2)), (1, 1))
        self.assert_fraction(total(*[(1, 7)] * 500), (500, 7))

    def test_a_long_sum(self):
        parts = [fraction(1, k * (k + 1)) for k in range(1, 1000)]
        self.assert_fraction(total(*parts), (999, 1000))

    def test_great_numbers(self):
        great = 10 ** 999
        self.assert_fraction(total((great, 1), (1, 1), (-great, 1)), (1, 1))
        self.assert_fraction(total((1, great), (-1, great - 1)), (-1, great * (great - 1)))

    def test_results_are_passed_back(self):
        result = total(total((1, 2), (1, 3)), product((1, 2), (1, 3)), fraction(-2, 2))
        self.assert_fraction(result, (0, 1))


class ProductTest(FractionCase):
    def test_no_one_and_many_arguments(self):
        self.assert_fraction(product(), (1, 1))
        self.assert_fraction(product((-3, 7)), (-3, 7))
        self.assert_fraction(product((2, 3), (3, 2)), (1, 1))
        self.assert_fraction(product((-2, 3), (-3, 4)), (1, 2))
        self.assert_fraction(product((-2, 3), (3, 4)), (-1, 2))
        self.assert_fraction(product((0, 1), (-3, 4)), (0, 1))
        self.assert_fraction(product(*[(-1, 1)] * 501), (-1, 1))

    def test_a_long_product(self):
        self.assert_fraction(product(*[(k, k + 1) for k in range(1, 1000)]), (1, 1000))

    def test_great_numbers(self):
        great = 10 ** 999
        self.assert_fraction(product((great, 3), (-3, great)), (-1, 1))
        self.assert_fraction(product((great, 1), (great, 1)), (10 ** 1998, 1))

    def test_results_are_passed_back(self):
        result = product(product((1, 2), (4, 3)), total((1, 2), (1, 4)), fraction(-4, 2))
        self.assert_fraction(result, (-1, 1))


class TotalAndProductTest(FractionCase):
    def test_against_the_fractions_of_python(self):
        chance = random.Random(5)
        for _ in range(300):
            values = [
                Fraction(chance.randint(-30, 30), chance.randint(1, 30))
                for _ in range(chance.randint(0, 6))
            ]
            pairs = [(value.numerator, value.denominator) for value in values]
            added, times = Fraction(0), Fraction(1)
            for value in values:
                added, times = added + value, times * value
            self.assert_fraction(total(*pairs), (added.numerator, added.denominator))
            self.assert_fraction(product(*pairs), (times.numerator, times.denominator))

    def test_plain_results_for_tuples_and_integers_of_classes_below(self):
        odd = OddTuple((OddInt(3), OddInt(4)))
        for function in (total, product):
            self.assert_fraction(function(odd), (3, 4))

    def test_what_is_no_fraction(self):
        for function in (total, product):
            for value in NO_FRACTIONS:
                self.assert_no_fraction(value, function, value)
                self.assert_no_fraction(value, function, (1, 2), value)
                self.assert_no_fraction(value, function, (0, 1), value, (1, 2))

    def test_the_first_wrong_argument_is_named(self):
        for function in (total, product):
            for value in NO_FRACTIONS:
                self.assert_no_fraction(value, function, (1, 2), value, [0], None, (2, 4))

    def test_the_very_thing_that_was_passed_is_held(self):
        for function in (total, product):
            first, second = [2, 4], [2, 4]
            self.assert_no_fraction(first, function, first, second)

    def test_arguments_are_not_changed(self):
        for function in (total, product):
            for value in NO_FRACTIONS:
                before = copy.deepcopy(value)
                with self.assertRaises(NoFraction):
                    function((1, 2), value)
                self.assertEqual(value, before)


if __name__ == "__main__":
    unittest.main()
