"""[47], [48]: the least longest tie, the greatest least corner."""

import unittest
from fractions import Fraction

from tests.samples import (
    BOTH_OFF, CIRCLE, CORNERS, FIRST_OFF, GRID_THREE, LAST_OFF, NEEDLE, NINES, OUTER_EIGHT, OUTER_NINE, ROUND_NINE,
    SPOT, SQUARE, TWO_COLUMNS, TWO_OFF, bowl)
from tests.shapes import doubled
from tests.trying import all_lays, ties_in
from threelays.counting import count
from threelays.fractions import is_fraction
from threelays.laychecker import lets_lay
from threelays.longest import greatest_corner, least_longest
from threelays.menus import corners_from, no_longer


def square_of(tie):
    (ax, ay), (bx, by) = tie
    return (bx - ax) ** 2 + (by - ay) ** 2


def longest(lay):
    return max(square_of(tie) for tie in ties_in(lay))


def corner_at(a, b, c):
    dot = (b[0] - a[0]) * (c[0] - a[0]) + (b[1] - a[1]) * (c[1] - a[1])
    return Fraction(dot, abs(doubled(a, b, c)))


def least_corner_of(lay):
    return max(corner for a, b, c in lay for corner in (corner_at(a, b, c), corner_at(b, a, c), corner_at(c, a, b)))


class LeastLongestTests(unittest.TestCase):

    def test_told_ones(self):
        self.assertEqual(least_longest(SPOT), (2, (SPOT,)))
        self.assertEqual(least_longest(SQUARE)[0], 2)
        self.assertEqual(least_longest(GRID_THREE)[0], 2)
        self.assertEqual(least_longest(OUTER_NINE)[0], 2000000)
        self.assertEqual(least_longest(CORNERS)[0], 8000000)
        # The tie across is longer than all of the rim, and no lay does without one.
        kite = ((0, 0), (1, -3), (1, 3), (9, 0))
        self.assertEqual(least_longest(kite), (73, (((0, 0), (1, -3), (1, 3)), ((1, -3), (1, 3), (9, 0)))))
        slim = ((0, 0), (2, -5), (2, 5), (3, 0))
        self.assertEqual(least_longest(slim), (29, (((0, 0), (2, -5), (3, 0)), ((0, 0), (2, 5), (3, 0)))))

    def test_against_all_lays(self):
        for field in NINES:
            told = least_longest(field)
            self.assertIs(told.__class__, tuple)
            number, lay = told
            self.assertIs(number.__class__, int)
            self.assertEqual(number, min(longest(other) for other in all_lays(field)))
            self.assertIn(lay, all_lays(field))
            self.assertEqual(longest(lay), number)

    def test_menus_of_the_number_and_of_less(self):
        for field in NINES:
            number, lay = least_longest(field)
            self.assertGreater(count(field, no_longer(field, number)), 0)
            self.assertEqual(count(field, no_longer(field, number - 1)), 0)

    def test_lines_rounds_and_grids(self):
        for field in (LAST_OFF, FIRST_OFF, NEEDLE):
            self.assertEqual(least_longest(field), (longest(all_lays(field)[0]), all_lays(field)[0]))
        for field in (ROUND_NINE, TWO_OFF, BOTH_OFF, TWO_COLUMNS, OUTER_EIGHT, bowl(9)):
            number, lay = least_longest(field)
            self.assertIs(lets_lay(field, lay), True)
            self.assertEqual(number, min(longest(other) for other in all_lays(field)))

    def test_somewhat_beyond_nine_points(self):
        number, lay = least_longest(CIRCLE[:10])
        self.assertIs(lets_lay(CIRCLE[:10], lay), True)
        self.assertEqual(longest(lay), number)

    def test_by_names(self):
        self.assertEqual(least_longest(field=SPOT), (2, (SPOT,)))


class GreatestCornerTests(unittest.TestCase):

    def test_told_ones(self):
        self.assertEqual(greatest_corner(SPOT), ((1, 1), (SPOT,)))
        for field in (SQUARE, GRID_THREE, OUTER_NINE, CORNERS):
            self.assertEqual(greatest_corner(field)[0], (1, 1))
        kite = ((0, 0), (1, -3), (1, 3), (9, 0))
        # The longer tie across makes the greater corners.
        self.assertEqual(greatest_corner(kite), ((8, 3), (((0, 0), (1, -3), (9, 0)), ((0, 0), (1, 3), (9, 0)))))

    def test_against_all_lays(self):
        for field in NINES:
            told = greatest_corner(field)
            self.assertIs(told.__class__, tuple)
            corner, lay = told
            self.assertIs(is_fraction(corner), True)
            self.assertEqual(Fraction(*corner), min(least_corner_of(other) for other in all_lays(field)))
            self.assertIn(lay, all_lays(field))
            self.assertEqual(least_corner_of(lay), Fraction(*corner))

    def test_menus_of_the_corner_and_of_lesser_fractions(self):
        for field in NINES:
            corner, lay = greatest_corner(field)
            self.assertGreater(count(field, corners_from(field, corner, False)), 0)
            self.assertEqual(count(field, corners_from(field, corner, True)), 0)

    def test_lines_rounds_and_grids(self):
        for field in (LAST_OFF, FIRST_OFF, NEEDLE):
            corner, lay = greatest_corner(field)
            self.assertEqual((Fraction(*corner), lay), (least_corner_of(lay), all_lays(field)[0]))
        for field in (ROUND_NINE, TWO_OFF, BOTH_OFF, TWO_COLUMNS, OUTER_EIGHT, bowl(9)):
            corner, lay = greatest_corner(field)
            self.assertIs(lets_lay(field, lay), True)
            self.assertEqual(Fraction(*corner), min(least_corner_of(other) for other in all_lays(field)))

    def test_somewhat_beyond_nine_points(self):
        corner, lay = greatest_corner(CIRCLE[:10])
        self.assertIs(lets_lay(CIRCLE[:10], lay), True)
        self.assertEqual(least_corner_of(lay), Fraction(*corner))

    def test_by_names(self):
        self.assertEqual(greatest_corner(field=SPOT), ((1, 1), (SPOT,)))
