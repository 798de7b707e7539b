"""[3], [5], [13], [14]: fields, hulls, and the two fronts of the rim."""

import itertools
import unittest

from tests.samples import (
    CIRCLE, CORNERS, FIELDS, FIRST_OFF, FLAT_ROW, GRID_FOUR, GRID_THREE, LADDER, LAST_OFF, LOW_ROW, MANY, OUTERMOST,
    SPOT, SQUARE, UPRIGHT_ROW, deep, made_field, no_points, spoiled)
from threelays.fields import hull, hull_area, is_field, lower, upper
from threelays.points import side
from threelays.ties import is_tie


def rim_points(field):
    """Those through which a line goes with the whole field on one hand of it or on it."""
    return [a for a in field if any(all(side(a, b, c) >= 0 for c in field) for b in field if b != a)]


def picks(rim):
    """The doubled area of a round of points, by the shoelace."""
    return sum(a[0] * b[1] - a[1] * b[0] for a, b in zip(rim, rim[1:] + rim[:1]))


class IsFieldTests(unittest.TestCase):

    def test_fields(self):
        for field in FIELDS:
            self.assertIs(is_field(field), True)

    def test_as_many_points_of_any_size(self):
        self.assertIs(is_field(made_field(5, 1600, 5000)), True)
        self.assertIs(is_field(tuple((x, 0) for x in range(1600)) + ((1600, 1),)), True)
        self.assertIs(is_field(((-MANY, 0), (0, MANY), (MANY, 0))), True)
        self.assertIs(is_field(((-MANY, -MANY), (0, 1), (MANY, MANY))), True)

    def test_fewer_than_three(self):
        self.assertIs(is_field(()), False)
        self.assertIs(is_field(((0, 0),)), False)
        self.assertIs(is_field(((0, 0), (1, 1))), False)

    def test_all_on_one_line(self):
        for step in ((1, 0), (0, 1), (2, 3), (3, -1)):
            row = tuple((k * step[0], k * step[1]) for k in range(16))
            self.assertIs(is_field(row), False)
            self.assertIs(is_field(row[:3]), False)
        self.assertIs(is_field(((-MANY, -MANY), (0, 0), (MANY, MANY))), False)
        self.assertIs(is_field(tuple((x, 0) for x in range(1600))), False)

    def test_all_but_one_on_a_line(self):
        for field in (FLAT_ROW, LOW_ROW, UPRIGHT_ROW, LAST_OFF, FIRST_OFF):
            self.assertIs(is_field(field), True)

    def test_not_rising(self):
        for order in itertools.permutations(SQUARE):
            self.assertIs(is_field(order), order == SQUARE)
        self.assertIs(is_field(SPOT[:1] + SPOT), False)
        self.assertIs(is_field(SPOT + SPOT[-1:]), False)
        self.assertIs(is_field(GRID_FOUR[:5] + GRID_FOUR[4:]), False)

    def test_spoiled(self):
        for field in (SPOT, SQUARE):
            for thing in spoiled(field):
                # The square less its last point is a field again; texts part truths from numbers.
                self.assertIs(is_field(thing), repr(thing) == repr(SPOT), thing)

    def test_truths_in_each_place(self):
        for at, axis in itertools.product(range(4), range(2)):
            point = list(SQUARE[at])
            point[axis] = point[axis] == 1
            self.assertIs(is_field(SQUARE[:at] + (tuple(point),) + SQUARE[at + 1:]), False)

    def test_any_thing(self):
        for thing in no_points() + [deep(tuple, SPOT, 17), deep(list, SPOT, 17), list(SQUARE), [list(SQUARE)]]:
            self.assertIs(is_field(thing), False)

    def test_by_name(self):
        self.assertIs(is_field(thing=SPOT), True)


class HullTests(unittest.TestCase):

    def test_told_ones(self):
        self.assertEqual(hull(SPOT), ((0, 0), (1, 0), (0, 1)))
        self.assertEqual(hull(SQUARE), ((0, 0), (1, 0), (1, 1), (0, 1)))
        self.assertEqual(hull(GRID_THREE), ((0, 0), (1, 0), (2, 0), (2, 1), (2, 2), (1, 2), (0, 2), (0, 1)))
        self.assertEqual(hull(CORNERS), ((-1000, -1000), (1000, -1000), (1000, 1000), (-1000, 1000)))
        self.assertEqual(hull(LAST_OFF), ((0, 0), (8, 7)) + LAST_OFF[7:0:-1])
        self.assertEqual(hull(FIRST_OFF), FIRST_OFF)

    def test_told_fronts(self):
        self.assertEqual(lower(GRID_THREE), ((0, 0), (1, 0), (2, 0), (2, 1), (2, 2)))
        self.assertEqual(upper(GRID_THREE), ((0, 0), (0, 1), (0, 2), (1, 2), (2, 2)))
        self.assertEqual(lower(SPOT), ((0, 0), (1, 0)))
        self.assertEqual(upper(SPOT), SPOT)
        self.assertEqual(lower(LAST_OFF), ((0, 0), (8, 7)))
        self.assertEqual(upper(LAST_OFF), LAST_OFF)
        self.assertEqual(lower(LADDER), ((0, 0),) + LADDER[8:])
        self.assertEqual(upper(LADDER), LADDER[:8] + ((1, 7),))

    def test_all_points_on_the_rim(self):
        for field in (LADDER, CIRCLE, LOW_ROW, UPRIGHT_ROW, FLAT_ROW):
            self.assertEqual(sorted(hull(field)), list(field))

    def test_the_rim_and_no_others(self):
        for field in FIELDS:
            told = hull(field)
            self.assertIs(told.__class__, tuple)
            self.assertEqual(sorted(told), rim_points(field))
            self.assertGreaterEqual(len(told), 3)

    def test_from_the_least_on_the_inner_side_on_the_left(self):
        for field in FIELDS:
            told = hull(field)
            self.assertEqual(told[0], field[0])
            for a, b in zip(told, told[1:] + told[:1]):
                self.assertTrue(all(side(a, b, c) >= 0 for c in field))
                self.assertIs(is_tie(field, tuple(sorted((a, b)))), True)

    def test_area(self):
        self.assertEqual(hull_area(SPOT), 1)
        self.assertEqual(hull_area(SQUARE), 2)
        self.assertEqual(hull_area(GRID_FOUR), 18)
        self.assertEqual(hull_area(CORNERS), 8000000)
        self.assertEqual(hull_area(OUTERMOST), 8000000)
        for field in FIELDS:
            self.assertEqual(hull_area(field), picks(hull(field)))

    def test_fronts_make_the_hull(self):
        for field in FIELDS:
            low, high = lower(field), upper(field)
            self.assertEqual(low[:-1] + high[::-1][:-1], hull(field))
            self.assertEqual([point for point in low if point in high], [field[0], field[-1]])

    def test_fronts_rise_from_first_to_last_by_ties(self):
        for field in FIELDS:
            for front in (lower(field), upper(field)):
                self.assertIs(front.__class__, tuple)
                self.assertEqual((front[0], front[-1]), (field[0], field[-1]))
                for pair in zip(front, front[1:]):
                    self.assertLess(pair[0], pair[1])
                    self.assertIs(is_tie(field, pair), True)

    def test_nothing_below_the_lower_or_above_the_upper_one(self):
        for field in FIELDS:
            for a, b in zip(lower(field), lower(field)[1:]):
                self.assertTrue(all(side(a, b, c) >= 0 for c in field))
            for a, b in zip(upper(field), upper(field)[1:]):
                self.assertTrue(all(side(a, b, c) <= 0 for c in field))

    def test_by_names(self):
        self.assertEqual(hull(field=SPOT), hull(SPOT))
        self.assertEqual(hull_area(field=SPOT), 1)
        self.assertEqual(lower(field=SPOT), lower(SPOT))
        self.assertEqual(upper(field=SPOT), upper(SPOT))
