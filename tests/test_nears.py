"""[6], [62]: near ties."""

import itertools
import unittest

from tests.samples import (
    CIRCLE, CORNERS, FIELDS, GRID_FOUR, GRID_THREE, LADDER, NINES, OUTERMOST, SIXTEEN, SPOT, SQUARE, WHEEL)
from tests.trying import all_lays, ties_in, tried_circle
from threelays.nears import near_ties
from threelays.plain import plain_lay
from threelays.ties import ties


def far(a, b):
    return (a[0] - b[0]) ** 2 + (a[1] - b[1]) ** 2


def wanted(field):
    """All pairs, by the words of the document."""
    return tuple(
        (a, b) for a, b in itertools.combinations(field, 2)
        if not any(far(a, c) < far(a, b) and far(b, c) < far(a, b) for c in field))


class NearTiesTests(unittest.TestCase):

    def test_told_ones(self):
        self.assertEqual(near_ties(SPOT), (((0, 0), (0, 1)), ((0, 0), (1, 0))))
        # The ties across a square have the two others nearer to both.
        self.assertEqual(near_ties(SQUARE), (((0, 0), (0, 1)), ((0, 0), (1, 0)), ((0, 1), (1, 1)), ((1, 0), (1, 1))))
        line = ((0, 0), (0, 1), (0, 2), (7, 1))
        self.assertEqual(near_ties(line), (((0, 0), (0, 1)), ((0, 1), (0, 2)), ((0, 1), (7, 1))))

    def test_grids(self):
        for field in (GRID_THREE, GRID_FOUR, LADDER):
            self.assertEqual(near_ties(field), tuple(pair for pair in ties(field) if far(*pair) == 1))

    def test_points_equally_far(self):
        # A point that is just as far from one of the two as they are from one another does nothing.
        field = ((-3, 0), (0, 4), (0, 9), (2, 0))
        self.assertEqual(far((-3, 0), (0, 4)), far((-3, 0), (2, 0)))
        self.assertIn(((-3, 0), (0, 4)), near_ties(field))
        self.assertIn(((-3, 0), (2, 0)), near_ties(field))
        both = ((-3, 0), (0, -4), (0, 4), (5, 0))
        self.assertEqual(near_ties(both), wanted(both))
        # Three that are equally far from one point, and a round about its middle.
        wheel = tuple(sorted(((0, 0), (0, 5), (3, 4), (4, 3), (5, 0))))
        self.assertEqual(near_ties(wheel), wanted(wheel))
        self.assertEqual(near_ties(WHEEL), wanted(WHEEL))

    def test_all_pairs(self):
        for field in FIELDS:
            told = near_ties(field)
            self.assertIs(told.__class__, tuple)
            self.assertEqual(told, wanted(field))

    def test_all_are_ties_and_the_least_far_pair_is_one(self):
        for field in FIELDS:
            told = near_ties(field)
            self.assertLessEqual(set(told), set(ties(field)))
            least = min(far(*pair) for pair in ties(field))
            self.assertTrue({pair for pair in ties(field) if far(*pair) == least} <= set(told))

    def test_each_empty_lay_has_all(self):
        for field in NINES:
            for lay in all_lays(field)[:60]:
                if all(tried_circle(three, point) < 1 for three in lay for point in field):
                    self.assertLessEqual(set(near_ties(field)), set(ties_in(lay)))

    def test_the_plain_lay_has_all(self):
        for field in FIELDS:
            self.assertLessEqual(set(near_ties(field)), set(ties_in(plain_lay(field, ()))))

    def test_lines_rounds_and_the_outmost(self):
        for field in SIXTEEN + (CORNERS, CIRCLE, OUTERMOST):
            self.assertEqual(near_ties(field), wanted(field))

    def test_by_names(self):
        self.assertEqual(near_ties(field=SPOT), (((0, 0), (0, 1)), ((0, 0), (1, 0))))
