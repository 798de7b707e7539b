"""[2], [3], [10]: numbers and fractions."""

import math
import random
import unittest
from fractions import Fraction

from tests.samples import MANY, no_points, spoiled
from threelays.fractions import fraction, is_fraction, is_number, less

NOUGHT = (0, 1)
LONG = int("9" * 200)
PRIME = 10 ** 9 + 7


def long_numbers():
    source = random.Random(10)
    told = [source.randrange(MANY, 10 * MANY) for step in range(20)]
    return told + [-number for number in told] + [LONG, -LONG, MANY, -MANY, 1, -1]


class NumberTests(unittest.TestCase):

    def test_numbers(self):
        for thing in (0, 1, -1, 2, 1000, -1000, LONG, -LONG):
            self.assertIs(is_number(thing), True)

    def test_truths_are_no_numbers(self):
        self.assertIs(is_number(True), False)
        self.assertIs(is_number(False), False)

    def test_other_things(self):
        for thing in no_points():
            self.assertIs(is_number(thing), thing.__class__ is int)
        for thing in ("0", "", None, (), [], (1,), [1], ((1,),)):
            self.assertIs(is_number(thing), False)

    def test_by_name(self):
        self.assertIs(is_number(thing=3), True)


class IsFractionTests(unittest.TestCase):

    def test_fractions(self):
        for thing in (NOUGHT, (1, 1), (-1, 1), (1, 2), (-1, 2), (3, 2), (LONG, 1), (-LONG, 1), (1, LONG),
                      (LONG, LONG - 1), (-LONG, MANY), (MANY, LONG)):
            self.assertIs(is_fraction(thing), True, thing)

    def test_common_divisors(self):
        for thing in ((2, 2), (2, 4), (-2, 4), (6, 3), (LONG, LONG), (LONG, 3), (PRIME * 3, PRIME * 5), (-9, 6)):
            self.assertIs(is_fraction(thing), False, thing)

    def test_nought_is_over_one_alone(self):
        for bottom in (2, 3, -1, 0, LONG):
            self.assertIs(is_fraction((0, bottom)), False)

    def test_bottoms_from_one_on(self):
        for thing in ((1, 0), (0, 0), (1, -1), (-1, -2), (1, -LONG), (5, -3)):
            self.assertIs(is_fraction(thing), False, thing)

    def test_truths_lists_and_other_kinds(self):
        for right in (NOUGHT, (1, 1), (1, 2), (-3, 1), (5, 7)):
            for thing in spoiled(right):
                self.assertIs(is_fraction(thing), False, thing)
        self.assertIs(is_fraction((True, True)), False)
        self.assertIs(is_fraction([1, 2]), False)

    def test_any_thing(self):
        for thing in no_points():
            self.assertIs(is_fraction(thing), False)

    def test_like_the_divisors(self):
        for top in range(-12, 13):
            for bottom in range(-12, 13):
                wanted = bottom >= 1 and math.gcd(top, bottom) == 1
                self.assertIs(is_fraction((top, bottom)), wanted, (top, bottom))

    def test_by_name(self):
        self.assertIs(is_fraction(thing=(1, 3)), True)


class FractionTests(unittest.TestCase):

    def check(self, top, bottom):
        told = fraction(top, bottom)
        self.assertIs(told.__class__, tuple)
        exact = Fraction(top, bottom)
        self.assertEqual(told, (exact.numerator, exact.denominator))
        self.assertIs(is_fraction(told), True)

    def test_told_ones(self):
        self.assertEqual(fraction(4, 6), (2, 3))
        self.assertEqual(fraction(-4, 6), (-2, 3))
        self.assertEqual(fraction(4, -6), (-2, 3))
        self.assertEqual(fraction(-4, -6), (2, 3))
        self.assertEqual(fraction(7, 1), (7, 1))
        self.assertEqual(fraction(7, -1), (-7, 1))

    def test_nought(self):
        for bottom in (1, -1, 2, -2, 1000, LONG, -LONG):
            self.assertEqual(fraction(0, bottom), NOUGHT)

    def test_small_ones(self):
        for top in range(-15, 16):
            for bottom in range(-15, 16):
                if bottom != 0:
                    self.check(top, bottom)

    def test_two_hundred_figures(self):
        numbers = long_numbers()
        for top in numbers:
            for bottom in numbers:
                self.check(top, bottom)
        self.check(PRIME ** 22, PRIME ** 21 * 2)

    def test_a_long_way_of_divisors(self):
        # Neighbours in this row take the most steps of all to their divisor.
        one, other = 1, 1
        while other < LONG:
            one, other = other, one + other
        self.check(one, other - one)
        self.check(-one, other - one)

    def test_by_names(self):
        self.assertEqual(fraction(bottom=4, top=-2), (-1, 2))

    def test_repeated(self):
        self.assertEqual(fraction(10, 4), fraction(10, 4))


class LessTests(unittest.TestCase):

    def check(self, one, other):
        self.assertIs(less(one, other), Fraction(*one) < Fraction(*other), (one, other))

    def test_told_ones(self):
        self.assertIs(less((1, 3), (1, 2)), True)
        self.assertIs(less((1, 2), (1, 3)), False)
        self.assertIs(less((1, 2), (1, 2)), False)
        self.assertIs(less((-1, 2), (-1, 3)), True)
        self.assertIs(less((-1, 3), (-1, 2)), False)
        self.assertIs(less((-1, 2), NOUGHT), True)
        self.assertIs(less(NOUGHT, NOUGHT), False)
        self.assertIs(less((2, 1), (1, 1)), False)

    def test_small_ones(self):
        some = [(top, bottom) for top in range(-6, 7) for bottom in range(1, 7) if math.gcd(top, bottom) == 1]
        for one in some:
            for other in some:
                self.check(one, other)

    def test_two_hundred_figures(self):
        some = [fraction(top, bottom) for top in long_numbers()[::7] for bottom in long_numbers()[::6]]
        for one in some:
            for other in some:
                self.check(one, other)
        self.assertIs(less((LONG - 1, LONG), (LONG - 2, LONG - 1)), False)
        self.assertIs(less((LONG - 2, LONG - 1), (LONG - 1, LONG)), True)

    def test_by_names(self):
        self.assertIs(less(other=(1, 2), one=(1, 3)), True)
