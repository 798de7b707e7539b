"""[3], [6], [21], [22], [23]: ties of a lay, points across, least corners, lifts, weights."""

import itertools
import unittest
from fractions import Fraction

from tests.samples import (
    CORNERS, FIELDS, FLAT_ROW, GRID_FOUR, GRID_THREE, LAST_OFF, NEEDLE, NINES, OUTERMOST, SPOT, SQUARE)
from tests.shapes import doubled
from tests.trying import all_lays, crossed_pairs, hull_ties, many_ties, many_triangles, sides, some_lays
from threelays.fields import hull, hull_area
from threelays.fractions import is_fraction
from threelays.lays import inner, least_of, lift, opposite, ties_of, weight
from threelays.points import corner
from threelays.ties import ties

LAY = (SQUARE[:3], SQUARE[1:])
OTHER = ((SQUARE[0], SQUARE[1], SQUARE[3]), (SQUARE[0], SQUARE[2], SQUARE[3]))
DIAGONAL = ((0, 1), (1, 0))
RISING = ((0, 0), (1, 1))


def each_lay():
    """Lays of small fields, all of them, and some of great ones, with their fields."""
    for field in NINES[:40]:
        for lay in all_lays(field)[:60]:
            yield field, lay
    for field in FIELDS:
        for lay in some_lays(field):
            yield field, lay


class TiesOfTests(unittest.TestCase):

    def test_told_ones(self):
        self.assertEqual(ties_of((SPOT,)), sides(SPOT))
        self.assertEqual(ties_of(LAY), (
            ((0, 0), (0, 1)), ((0, 0), (1, 0)), ((0, 1), (1, 0)), ((0, 1), (1, 1)), ((1, 0), (1, 1))))

    def test_all_sides_once_each_rising(self):
        for field, lay in each_lay():
            told = ties_of(lay)
            self.assertIs(told.__class__, tuple)
            self.assertEqual(told, tuple(sorted({side for three in lay for side in sides(three)})))

    def test_by_name(self):
        self.assertEqual(ties_of(lay=(SPOT,)), sides(SPOT))


class InnerTests(unittest.TestCase):

    def test_told_ones(self):
        self.assertEqual(inner(SPOT, (SPOT,)), ())
        self.assertEqual(inner(SQUARE, LAY), (DIAGONAL,))
        self.assertEqual(inner(SQUARE, OTHER), (RISING,))
        self.assertEqual(inner(NEEDLE, all_lays(NEEDLE)[0]), tuple(
            tie for tie in ties(NEEDLE) if tie not in hull_ties(NEEDLE)))

    def test_those_that_are_no_hull_ties(self):
        for field, lay in each_lay():
            told = inner(field, lay)
            self.assertIs(told.__class__, tuple)
            self.assertEqual(told, tuple(tie for tie in ties_of(lay) if tie not in hull_ties(field)))

    def test_hull_ties_from_the_last_point_to_the_first(self):
        # The hull's round ends at the least point; that tie is none of the inner ones either.
        for field in FIELDS:
            rim = hull(field)
            for lay in some_lays(field):
                self.assertNotIn((rim[0], rim[-1]), inner(field, lay))
                self.assertIn((rim[0], rim[-1]), ties_of(lay))

    def test_points_on_straight_parts_of_the_rim(self):
        lay = all_lays(GRID_THREE)[0]
        for tie in (((0, 0), (0, 1)), ((0, 1), (0, 2)), ((1, 0), (2, 0)), ((2, 1), (2, 2))):
            self.assertIn(tie, ties_of(lay))
            self.assertNotIn(tie, inner(GRID_THREE, lay))

    def test_by_names(self):
        self.assertEqual(inner(lay=LAY, field=SQUARE), (DIAGONAL,))


class OppositeTests(unittest.TestCase):

    def test_told_ones(self):
        self.assertEqual(opposite(LAY, DIAGONAL), ((0, 0), (1, 1)))
        self.assertEqual(opposite(OTHER, RISING), ((0, 1), (1, 0)))
        self.assertEqual(opposite(LAY, ((0, 0), (0, 1))), ((1, 0),))
        self.assertEqual(opposite(LAY, ((1, 0), (1, 1))), ((0, 1),))

    def test_a_tie_that_the_lay_has_not(self):
        self.assertEqual(opposite(LAY, RISING), ())
        self.assertEqual(opposite(OTHER, DIAGONAL), ())

    def test_each_tie_of_the_field(self):
        for field, lay in each_lay():
            across = {tie: [] for tie in ties(field)}
            for three in lay:
                for tie in sides(three):
                    across[tie] += set(three) - set(tie)
            for tie, points in across.items():
                told = opposite(lay, tie)
                self.assertIs(told.__class__, tuple)
                self.assertEqual(told, tuple(sorted(points)))

    def test_by_names(self):
        self.assertEqual(opposite(tie=DIAGONAL, lay=LAY), ((0, 0), (1, 1)))


class FollowsTests(unittest.TestCase):

    def test_how_many_triangles_and_ties(self):
        for field, lay in each_lay():
            self.assertEqual(len(lay), many_triangles(field))
            self.assertEqual(len(ties_of(lay)), many_ties(field))
            self.assertEqual(len(inner(field, lay)), many_ties(field) - len(hull(field)))

    def test_no_two_ties_cross(self):
        for field, lay in each_lay():
            if len(field) <= 8 or field in (GRID_FOUR, OUTERMOST):
                self.assertEqual(crossed_pairs(ties_of(lay)), [])

    def test_points_across(self):
        for field, lay in each_lay():
            rim = hull_ties(field)
            self.assertLessEqual(rim, set(ties_of(lay)))
            for tie in ties_of(lay):
                hands = sorted(doubled(*tie, point) > 0 for point in opposite(lay, tie))
                if tie in rim:
                    self.assertEqual(len(hands), 1)
                else:
                    self.assertEqual(hands, [False, True])

    def test_each_point_is_one_of_some_triangle(self):
        for field, lay in each_lay():
            self.assertEqual(tuple(sorted({point for three in lay for point in three})), field)


class LeastOfTests(unittest.TestCase):

    def test_told_ones(self):
        self.assertEqual(least_of((SPOT,)), (1, 1))
        self.assertEqual(least_of(all_lays(((0, 0), (0, 3), (4, 0)))[0]), (4, 3))
        self.assertEqual(least_of((((0, 0), (0, 5), (1, 0)), ((0, 5), (1, 0), (1, 9)))), (5, 1))

    def test_the_greatest_fraction(self):
        for field, lay in each_lay():
            told = least_of(lay)
            self.assertIs(is_fraction(told), True)
            fractions = [Fraction(*corner(*order)) for three in lay for order in itertools.permutations(three)]
            self.assertEqual(Fraction(*told), max(fractions))

    def test_at_each_triangle(self):
        thin = ((0, 0), (0, 9), (1, 9))
        for at in range(3):
            lay = [((2, 0), (3, 0), (3, 1)), ((4, 0), (5, 0), (5, 1))]
            lay.insert(at, thin)
            self.assertEqual(least_of(tuple(lay)), (9, 1))

    def test_by_name(self):
        self.assertEqual(least_of(lay=(SPOT,)), (1, 1))


class LiftTests(unittest.TestCase):

    def test_told_ones(self):
        self.assertEqual(lift((SPOT,)), 2)
        self.assertEqual(lift(LAY), 2 + 4)
        self.assertEqual(lift(OTHER), 3 + 3)
        self.assertEqual(lift((CORNERS[:3], CORNERS[1:])), 2 * 4000000 * 6000000)

    def test_added_over_the_triangles(self):
        for field, lay in each_lay():
            told = 0
            for three in lay:
                told += abs(doubled(*three)) * sum(x ** 2 + y ** 2 for x, y in three)
            self.assertEqual(lift(lay), told)
            self.assertIs(lift(lay).__class__, int)

    def test_by_name(self):
        self.assertEqual(lift(lay=(SPOT,)), 2)


class WeightTests(unittest.TestCase):

    def test_told_ones(self):
        self.assertEqual(weight(SPOT, (1, 10, 100), (SPOT,)), 111)
        self.assertEqual(weight(SQUARE, (1, 10, 100, 1000, 10000, 100000), LAY), 111011)
        self.assertEqual(weight(SQUARE, (1, 10, 100, 1000, 10000, 100000), OTHER), 110111)
        self.assertEqual(weight(SPOT, (0, 0, 0), (SPOT,)), 0)
        self.assertEqual(weight(SPOT, (1000000, 0, 1000000), (SPOT,)), 2000000)

    def test_each_tie_once(self):
        for field in NINES[:40]:
            many = len(ties(field))
            rows = (tuple(range(many)), (1,) * many, (0,) * many, tuple(7 ** at % 1000003 for at in range(many)))
            for lay in all_lays(field)[:20]:
                for weights in rows:
                    told = sum(number for tie, number in zip(ties(field), weights) if tie in ties_of(lay))
                    self.assertEqual(weight(field, weights, lay), told)
                self.assertEqual(weight(field, rows[1], lay), many_ties(field))
                for at, tie in enumerate(ties(field)):
                    lone = tuple(int(at == other) for other in range(many))
                    self.assertEqual(weight(field, lone, lay), int(tie in ties_of(lay)))

    def test_by_names(self):
        self.assertEqual(weight(lay=(SPOT,), weights=(1, 2, 3), field=SPOT), 6)


class AreaTests(unittest.TestCase):

    def test_areas_added_are_the_hulls(self):
        for field in (LAST_OFF, FLAT_ROW, GRID_FOUR):
            for lay in some_lays(field):
                self.assertEqual(sum(abs(doubled(*three)) for three in lay), hull_area(field))
