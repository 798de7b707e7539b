"""[18]: fields that are mirrored, moved and grown."""

import itertools
import unittest

from tests.samples import CIRCLE, FIELDS, FLAT_ROW, GRID_FOUR, GRID_THREE, LADDER, OUTERMOST, RIM, SMALL, WHEEL
from threelays.fields import hull, hull_area
from threelays.points import area, corner, side
from threelays.ties import cross, ties
from threelays.triangles import least_corner, over, triangles

# Each way: its name, how a point is made another one, how SIDES turn, how many times as great AREAS are.
WAYS = (
    ("swapped", lambda p: (p[1], p[0]), -1, 1),
    ("mirrored", lambda p: (0 - p[0], p[1]), -1, 1),
    ("moved", lambda p: (p[0] + 17, p[1] - 1000), 1, 1),
    ("moved back", lambda p: (p[0] - 1, p[1] + 3), 1, 1),
    ("stayed", lambda p: (1 * p[0], 1 * p[1]), 1, 1),
    ("grown", lambda p: (3 * p[0], 3 * p[1]), 1, 9),
    ("far grown", lambda p: (1000 * p[0], 1000 * p[1]), 1, 1000000))

SOME = SMALL + (WHEEL, LADDER, FLAT_ROW, RIM) + FIELDS[16:30]


def made(way, points):
    """A tuple of points made so, sorted anew."""
    return tuple(sorted(way(point) for point in points))


def all_made(way, some):
    return tuple(sorted(made(way, points) for points in some))


class MirrorTests(unittest.TestCase):

    def test_ties_and_triangles_stay(self):
        for field in SOME + (GRID_FOUR, CIRCLE, OUTERMOST):
            for name, way, turn, times in WAYS:
                with self.subTest(name):
                    self.assertEqual(ties(made(way, field)), all_made(way, ties(field)))
                    self.assertEqual(triangles(made(way, field)), all_made(way, triangles(field)))

    def test_hulls_stay(self):
        for field in FIELDS:
            for name, way, turn, times in WAYS:
                with self.subTest(name):
                    self.assertEqual(made(way, hull(field)), tuple(sorted(hull(made(way, field)))))
                    self.assertEqual(hull_area(made(way, field)), times * hull_area(field))

    def test_which_cross_stays(self):
        for field in SOME:
            for name, way, turn, times in WAYS:
                for one, other in itertools.combinations(ties(field), 2):
                    self.assertIs(cross(made(way, one), made(way, other)), cross(one, other), name)

    def test_which_lie_over_one_another_stays(self):
        for field in SOME:
            told = triangles(field)[:40]
            for name, way, turn, times in WAYS:
                for one, other in itertools.combinations(told, 2):
                    self.assertIs(over(made(way, one), made(way, other)), over(one, other), name)

    def test_corners_stay(self):
        for field in SOME:
            for name, way, turn, times in WAYS:
                for triangle in triangles(field):
                    self.assertEqual(least_corner(made(way, triangle)), least_corner(triangle), name)
                    a, b, c = triangle
                    self.assertEqual(corner(way(b), way(a), way(c)), corner(b, a, c), name)

    def test_sides_and_areas(self):
        for a, b, c in itertools.product(GRID_THREE, repeat=3):
            for name, way, turn, times in WAYS:
                self.assertEqual(side(way(a), way(b), way(c)), turn * side(a, b, c), name)
                self.assertEqual(area(way(a), way(b), way(c)), times * area(a, b, c), name)
