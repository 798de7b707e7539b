"""[3], [11], [12]: points, sides, areas, how far, corners."""

import itertools
import math
import unittest
from fractions import Fraction

from tests.samples import GRID_THREE, MANY, OUTERMOST, SQUARE, no_points, spoiled
from threelays.fractions import is_fraction, less
from threelays.points import area, corner, far, is_point, side

LONG = int("9" * 200)


def shoelace(*round_about):
    total = 0
    for (ax, ay), (bx, by) in zip(round_about, round_about[1:] + round_about[:1]):
        total += ax * by - ay * bx
    return total


def sign(number):
    return (number > 0) - (number < 0)


class IsPointTests(unittest.TestCase):

    def test_points(self):
        for thing in ((0, 0), (1, 0), (-1, 5), (1000, -1000), (1001, 5), (LONG, -LONG), (-MANY, 0)):
            self.assertIs(is_point(thing), True)

    def test_spoiled(self):
        for right in ((0, 0), (1, 1), (0, 1), (5, -7)):
            for thing in spoiled(right):
                self.assertIs(is_point(thing), False, thing)

    def test_truths(self):
        for thing in ((True, 0), (0, True), (False, False), (True, True), (False, 3)):
            self.assertIs(is_point(thing), False)

    def test_any_thing(self):
        for thing in no_points():
            self.assertIs(is_point(thing), False)

    def test_by_name(self):
        self.assertIs(is_point(thing=(2, 3)), True)


class SideAndAreaTests(unittest.TestCase):

    def check(self, a, b, c):
        wanted = shoelace(a, b, c)
        self.assertEqual(side(a, b, c), sign(wanted))
        self.assertEqual(area(a, b, c), abs(wanted))

    def test_told_ones(self):
        self.assertEqual(side((0, 0), (1, 0), (0, 1)), 1)
        self.assertEqual(side((0, 0), (0, 1), (1, 0)), -1)
        self.assertEqual(side((0, 0), (1, 1), (2, 2)), 0)
        self.assertEqual(side((0, 0), (4, 1), (8, 3)), 1)
        self.assertEqual(area((0, 0), (1, 0), (0, 1)), 1)
        self.assertEqual(area((0, 0), (0, 1), (1, 0)), 1)
        self.assertEqual(area((0, 0), (4, 0), (0, 3)), 12)
        self.assertEqual(area((1, 1), (2, 2), (5, 5)), 0)

    def test_any_three(self):
        for a, b, c in itertools.product(GRID_THREE, repeat=3):
            self.check(a, b, c)

    def test_alike_points(self):
        for a, b in itertools.product(SQUARE + ((7, -3),), repeat=2):
            for three in ((a, a, b), (a, b, a), (b, a, a), (a, a, a)):
                self.assertEqual(side(*three), 0)
                self.assertEqual(area(*three), 0)

    def test_outermost(self):
        for a, b, c in itertools.permutations(OUTERMOST, 3):
            self.check(a, b, c)
        self.assertEqual(area((-1000, -1000), (1000, -1000), (1000, 1000)), 4000000)

    def test_coordinates_of_any_size(self):
        self.check((0, 0), (LONG, LONG), (LONG - 1, LONG))
        self.check((-LONG, 5), (LONG, -3), (7, MANY))
        self.assertEqual(side((0, 0), (LONG, LONG), (MANY, MANY)), 0)

    def test_any_order(self):
        a, b, c = (0, 0), (5, 2), (1, 9)
        for three in ((a, b, c), (b, c, a), (c, a, b)):
            self.assertEqual(side(*three), 1)
            self.assertEqual(side(*three[::-1]), -1)
            self.assertEqual(area(*three), area(*three[::-1]))

    def test_by_names(self):
        self.assertEqual(side(c=(0, 1), b=(1, 0), a=(0, 0)), 1)
        self.assertEqual(area(c=(0, 2), b=(1, 0), a=(0, 0)), 2)


class FarTests(unittest.TestCase):

    def test_told_ones(self):
        self.assertEqual(far((0, 0), (3, 4)), 25)
        self.assertEqual(far((3, 4), (0, 0)), 25)
        self.assertEqual(far((-1, -1), (1, 1)), 8)
        self.assertEqual(far((-1000, -1000), (1000, 1000)), 8000000)
        self.assertEqual(far((2, 5), (2, 5)), 0)
        self.assertEqual(far(b=(1, 0), a=(0, 0)), 1)

    def test_pairs(self):
        for a, b in itertools.product(OUTERMOST, repeat=2):
            self.assertEqual(far(a, b), (a[0] - b[0]) ** 2 + (a[1] - b[1]) ** 2)


class CornerTests(unittest.TestCase):

    def test_told_ones(self):
        self.assertEqual(corner((0, 0), (1, 0), (0, 1)), (0, 1))
        self.assertEqual(corner((1, 0), (0, 0), (0, 1)), (1, 1))
        self.assertEqual(corner((0, 0), (1, 0), (-1, 1)), (-1, 1))
        self.assertEqual(corner((0, 0), (4, 0), (3, 2)), (3, 2))
        self.assertEqual(corner((0, 0), (2, 0), (2, 1)), (2, 1))
        self.assertEqual(corner((2, 1), (0, 0), (2, 0)), (1, 2))

    def test_any_order(self):
        for a, b, c in itertools.permutations(GRID_THREE + OUTERMOST[:4], 3):
            if shoelace(a, b, c) == 0:
                continue
            told = corner(a, b, c)
            dot = (b[0] - a[0]) * (c[0] - a[0]) + (b[1] - a[1]) * (c[1] - a[1])
            exact = Fraction(dot, abs(shoelace(a, b, c)))
            self.assertEqual(told, (exact.numerator, exact.denominator))
            self.assertIs(is_fraction(told), True)
            self.assertEqual(told, corner(a, c, b))

    def test_others_in_it_do_nothing(self):
        self.assertEqual(corner((-1000, -1000), (1000, -1000), (1000, 1000)), (1, 1))
        self.assertEqual(corner((1000, -1000), (-1000, -1000), (1000, 1000)), (0, 1))

    def test_the_greater_the_fraction_the_smaller_the_corner(self):
        told = []
        for b in ((9, 1), (5, 2), (1, 1), (1, 3), (0, 1), (-1, 4), (-1, 1), (-7, 1)):
            told.append((math.atan2(b[1], b[0]), corner((0, 0), (1, 0), b)))
        for (angle, one), (wider, other) in zip(told, told[1:]):
            self.assertLess(angle, wider)
            self.assertIs(less(other, one), True)

    def test_by_names(self):
        self.assertEqual(corner(b=(0, 0), c=(0, 1), a=(1, 0)), (1, 1))
