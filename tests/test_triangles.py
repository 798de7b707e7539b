"""[3], [16]: triangles, which of them lie over one another, least corners."""

import itertools
import unittest
from fractions import Fraction

from tests.samples import (
    CIRCLE, CORNERS, FIELDS, FIRST_OFF, FLAT_ROW, GRID_FOUR, GRID_THREE, LADDER, LAST_OFF, LOW_ROW, MANY, NEEDLE,
    OUTERMOST, SIXTEEN, SMALL, SPOT, SQUARE, UPRIGHT_ROW, WHEEL, deep, no_points, spoiled)
from tests.shapes import common_area, doubled, within
from threelays.fractions import is_fraction
from threelays.points import corner
from threelays.ties import is_tie
from threelays.triangles import is_triangle, least_corner, over, triangles


def wanted_triangles(field):
    told = []
    for three in itertools.combinations(field, 3):
        if doubled(*three) != 0 and sum(within(three, point) for point in field) == 3:
            told.append(three)
    return tuple(told)


class IsTriangleTests(unittest.TestCase):

    def test_each_three(self):
        for field in SMALL + SIXTEEN + FIELDS[16:40]:
            wanted = set(wanted_triangles(field))
            for three in itertools.combinations(field, 3):
                self.assertIs(is_triangle(field, three), three in wanted)

    def test_told_ones(self):
        self.assertIs(is_triangle(SPOT, SPOT), True)
        self.assertIs(is_triangle(GRID_THREE, ((0, 0), (0, 2), (2, 0))), False)
        self.assertIs(is_triangle(GRID_THREE, ((0, 0), (1, 1), (2, 2))), False)
        self.assertIs(is_triangle(GRID_THREE, ((0, 0), (1, 1), (2, 1))), True)
        self.assertIs(is_triangle(CORNERS, CORNERS[:3]), True)

    def test_another_point_on_a_side_or_within(self):
        rim = ((0, 0), (1, 0), (2, 0), (2, 2))
        self.assertIs(is_triangle(rim, ((0, 0), (2, 0), (2, 2))), False)
        self.assertIs(is_triangle(rim, ((0, 0), (1, 0), (2, 2))), True)
        inner = ((0, 0), (2, 1), (3, 0), (3, 3))
        self.assertIs(is_triangle(inner, ((0, 0), (3, 0), (3, 3))), False)
        self.assertIs(is_triangle(inner, ((0, 0), (2, 1), (3, 3))), True)

    def test_any_other_order(self):
        for field in (SPOT, SQUARE, NEEDLE):
            for three in itertools.combinations(field, 3):
                for order in itertools.permutations(three):
                    self.assertIs(is_triangle(field, order), order == three and three in wanted_triangles(field))

    def test_alike_points_and_points_on_one_line(self):
        for one, other in itertools.product(SQUARE, repeat=2):
            self.assertIs(is_triangle(SQUARE, (one, one, other)), False)
            self.assertIs(is_triangle(SQUARE, (one, other, other)), False)
        for three in itertools.combinations(LAST_OFF[:8], 3):
            self.assertIs(is_triangle(LAST_OFF, three), False)

    def test_points_that_the_field_has_not(self):
        for thing in (((0, 0), (0, 1), (2, 0)), ((-1, 0), (0, 0), (0, 1)), ((0, 0), (0, 1), (MANY, 0)),
                      ((5, 5), (5, 6), (6, 5))):
            self.assertIs(is_triangle(SQUARE, thing), False)

    def test_spoiled(self):
        for triangle in triangles(SQUARE):
            for thing in spoiled(triangle):
                self.assertIs(is_triangle(SQUARE, thing), False, thing)

    def test_truths_in_each_place(self):
        for at, axis in itertools.product(range(3), range(2)):
            point = list(SPOT[at])
            point[axis] = point[axis] == 1
            self.assertIs(is_triangle(SPOT, SPOT[:at] + (tuple(point),) + SPOT[at + 1:]), False)

    def test_any_thing(self):
        things = [deep(tuple, SPOT, 17), deep(list, SPOT, 17), list(SPOT), [list(point) for point in SPOT], SQUARE,
                  SPOT[:2]]
        for thing in no_points() + things:
            self.assertIs(is_triangle(SQUARE, thing), False)

    def test_by_names(self):
        self.assertIs(is_triangle(thing=SPOT, field=SQUARE), True)


class TrianglesTests(unittest.TestCase):

    def test_told_ones(self):
        self.assertEqual(triangles(SPOT), (SPOT,))
        self.assertEqual(triangles(((0, 0), (1, 1), (2, 0), (2, 2))), (
            ((0, 0), (1, 1), (2, 0)), ((1, 1), (2, 0), (2, 2))))
        self.assertEqual(triangles(CORNERS), tuple(itertools.combinations(CORNERS, 3)))

    def test_how_many(self):
        self.assertEqual(len(triangles(CIRCLE)), 16 * 15 * 14 // 6)
        self.assertEqual(len(triangles(LADDER)), 7 * 8 * 2)
        for field in (FLAT_ROW, LOW_ROW, UPRIGHT_ROW, LAST_OFF, FIRST_OFF):
            self.assertEqual(len(triangles(field)), len(field) - 2)

    def test_all_of_them_rising(self):
        for field in FIELDS:
            told = triangles(field)
            self.assertIs(told.__class__, tuple)
            self.assertEqual(told, wanted_triangles(field))
            self.assertEqual(told, tuple(sorted(told)))

    def test_their_sides_are_ties(self):
        for field in FIELDS:
            for three in triangles(field):
                self.assertIs(is_triangle(field, three), True)
                for pair in itertools.combinations(three, 2):
                    self.assertIs(is_tie(field, pair), True)

    def test_by_name(self):
        self.assertEqual(triangles(field=SPOT), (SPOT,))


class OverTests(unittest.TestCase):

    def test_told_ones(self):
        self.assertIs(over(SQUARE[:3], SQUARE[1:]), False)
        self.assertIs(over(SQUARE[:3], (SQUARE[0], SQUARE[1], SQUARE[3])), True)
        self.assertIs(over(((0, 0), (0, 1), (1, 0)), ((1, 1), (1, 2), (2, 1))), False)
        self.assertIs(over(CORNERS[:3], CORNERS[1:]), False)
        self.assertIs(over(CORNERS[:3], (CORNERS[0], CORNERS[1], CORNERS[3])), True)

    def test_no_corner_of_the_one_within_the_other(self):
        one = ((0, 0), (5, 1), (10, 0))
        other = ((4, -5), (5, 9), (6, -5))
        self.assertIs(over(one, other), True)
        self.assertIs(over(other, one), True)

    def test_a_triangle_and_itself(self):
        for field in FIELDS:
            for three in triangles(field):
                self.assertIs(over(three, three), True)

    def test_a_common_corner_or_a_part_of_a_side(self):
        self.assertIs(over(((0, 0), (0, 1), (1, 0)), ((0, 0), (0, -1), (-1, 0))), False)
        self.assertIs(over(((0, 0), (1, 0), (1, 1)), ((1, 1), (2, 1), (2, 2))), False)

    def test_like_the_common_area(self):
        for field in SMALL + (WHEEL, LADDER) + FIELDS[16:60]:
            for one, other in itertools.combinations(triangles(field), 2):
                wanted = common_area(one, other) > 0
                self.assertIs(over(one, other), wanted)
                self.assertIs(over(other, one), wanted)

    def test_sixteen_points(self):
        for field in (GRID_FOUR, OUTERMOST, CIRCLE):
            told = triangles(field)
            for one, other in zip(told, told[7:] + told[:7]):
                self.assertIs(over(one, other), common_area(one, other) > 0)

    def test_by_names(self):
        self.assertIs(over(other=SPOT, one=SPOT), True)


class LeastCornerTests(unittest.TestCase):

    def test_told_ones(self):
        self.assertEqual(least_corner(SPOT), (1, 1))
        self.assertEqual(least_corner(((0, 0), (2, 0), (2, 1))), (2, 1))
        self.assertEqual(least_corner(((0, 0), (0, 3), (4, 0))), (4, 3))
        self.assertEqual(least_corner(((-1000, -1000), (999, 999), (1000, 999))), (3999, 1))

    def test_the_greatest_fraction(self):
        for field in FIELDS:
            for a, b, c in triangles(field):
                told = least_corner((a, b, c))
                self.assertIs(is_fraction(told), True)
                all_three = (corner(a, b, c), corner(b, c, a), corner(c, a, b))
                self.assertIn(told, all_three)
                self.assertEqual(Fraction(*told), max(Fraction(*other) for other in all_three))

    def test_in_each_place(self):
        # The least corner stands at the first, the middle and the last point.
        self.assertEqual(least_corner(((0, 0), (5, 0), (5, 1))), (5, 1))
        self.assertEqual(least_corner(((0, 0), (0, 5), (1, 0))), (5, 1))
        self.assertEqual(least_corner(((0, 0), (0, 1), (5, 0))), (5, 1))

    def test_by_name(self):
        self.assertEqual(least_corner(triangle=SPOT), (1, 1))
