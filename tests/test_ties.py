"""[3], [15]: ties, and which of them cross."""

import itertools
import unittest

from tests.samples import (
    CIRCLE, CORNERS, FIELDS, FLAT_ROW, GRID_FOUR, GRID_THREE, LADDER, LAST_OFF, MANY, OUTERMOST, SIXTEEN, SMALL, SPOT,
    SQUARE, WHEEL, deep, no_points, spoiled)
from tests.shapes import between, do_cross
from threelays.ties import cross, crossing, is_tie, ties


def wanted_ties(field):
    return tuple(pair for pair in itertools.combinations(field, 2) if not between(*pair) & set(field))


class IsTieTests(unittest.TestCase):

    def test_each_pair_in_each_order(self):
        for field in FIELDS:
            wanted = wanted_ties(field)
            for pair in itertools.product(field, repeat=2):
                self.assertIs(is_tie(field, pair), pair in wanted)

    def test_told_ones(self):
        self.assertIs(is_tie(GRID_THREE, ((0, 0), (1, 1))), True)
        self.assertIs(is_tie(GRID_THREE, ((0, 0), (2, 2))), False)
        self.assertIs(is_tie(GRID_THREE, ((0, 0), (2, 1))), True)
        self.assertIs(is_tie(GRID_THREE, ((0, 0), (0, 2))), False)
        self.assertIs(is_tie(CORNERS, ((-1000, -1000), (1000, 1000))), True)
        self.assertIs(is_tie(OUTERMOST, ((-1000, -1000), (1000, 1000))), False)

    def test_the_other_way_about(self):
        self.assertIs(is_tie(SPOT, ((0, 0), (0, 1))), True)
        self.assertIs(is_tie(SPOT, ((0, 1), (0, 0))), False)

    def test_alike_points(self):
        for point in SQUARE:
            self.assertIs(is_tie(SQUARE, (point, point)), False)

    def test_points_that_the_field_has_not(self):
        for pair in (((0, 0), (2, 2)), ((-1, 0), (0, 0)), ((5, 5), (6, 6)), ((0, 0), (MANY, 1)), ((-MANY, 0), (0, 0))):
            self.assertIs(is_tie(SQUARE, pair), False)

    def test_spoiled(self):
        for tie in ties(SQUARE):
            for thing in spoiled(tie):
                self.assertIs(is_tie(SQUARE, thing), False, thing)

    def test_truths_in_each_place(self):
        for thing in (((False, 0), (0, 1)), ((0, False), (0, 1)), ((0, 0), (False, 1)), ((0, 0), (0, True)),
                      ((False, False), (True, True)), ((0, 0), (True, 0))):
            self.assertIs(is_tie(SQUARE, thing), False)

    def test_any_thing(self):
        tie = ((0, 0), (0, 1))
        things = [deep(tuple, tie, 18), deep(list, tie, 18), list(tie), [list(point) for point in tie], SPOT, SQUARE]
        for thing in no_points() + things:
            self.assertIs(is_tie(SQUARE, thing), False)

    def test_by_names(self):
        self.assertIs(is_tie(thing=((0, 0), (0, 1)), field=SPOT), True)


class TiesTests(unittest.TestCase):

    def test_told_ones(self):
        self.assertEqual(ties(SPOT), (((0, 0), (0, 1)), ((0, 0), (1, 0)), ((0, 1), (1, 0))))
        self.assertEqual(ties(((0, 0), (1, 1), (2, 0), (2, 2))), (
            ((0, 0), (1, 1)), ((0, 0), (2, 0)), ((1, 1), (2, 0)), ((1, 1), (2, 2)), ((2, 0), (2, 2))))

    def test_how_many(self):
        self.assertEqual(len(ties(CIRCLE)), 120)
        self.assertEqual(len(ties(GRID_THREE)), 28)
        self.assertEqual(len(ties(LADDER)), 7 + 7 + 64)
        self.assertEqual(len(ties(FLAT_ROW)), 14 + 15)
        self.assertEqual(len(ties(LAST_OFF)), 7 + 8)
        # Each of the wheel's points but the middle one has its opposite behind the middle one.
        self.assertEqual(len(ties(WHEEL)), 13 * 12 // 2 - 6)

    def test_all_of_them_rising(self):
        for field in FIELDS:
            told = ties(field)
            self.assertIs(told.__class__, tuple)
            self.assertEqual(told, wanted_ties(field))
            self.assertEqual(told, tuple(sorted(told)))
            self.assertTrue(all(is_tie(field, tie) is True for tie in told))

    def test_by_name(self):
        self.assertEqual(ties(field=SPOT), ties(SPOT))


class CrossTests(unittest.TestCase):

    def test_told_ones(self):
        self.assertIs(cross(((0, 0), (1, 1)), ((0, 1), (1, 0))), True)
        self.assertIs(cross(((0, 0), (0, 1)), ((1, 0), (1, 1))), False)
        self.assertIs(cross(((0, 0), (1, 1)), ((0, 0), (0, 1))), False)
        self.assertIs(cross(((-1000, -1000), (1000, 1000)), ((-1000, 1000), (1000, -1000))), True)

    def test_a_tie_and_itself(self):
        for field in FIELDS:
            for tie in ties(field):
                self.assertIs(cross(tie, tie), False)

    def test_behind_one_another_on_one_line(self):
        for field in (LAST_OFF, FLAT_ROW, GRID_FOUR):
            for one, other in itertools.combinations(ties(field), 2):
                if one[1] == other[0]:
                    self.assertIs(cross(one, other), False)

    def test_like_the_places_in_common(self):
        for field in SMALL + (LADDER, OUTERMOST, GRID_FOUR, WHEEL) + FIELDS[20:50]:
            for one, other in itertools.combinations(ties(field), 2):
                wanted = do_cross(one, other)
                self.assertIs(cross(one, other), wanted)
                self.assertIs(cross(other, one), wanted)

    def test_by_names(self):
        self.assertIs(cross(other=((0, 0), (1, 1)), one=((0, 1), (1, 0))), True)


class CrossingTests(unittest.TestCase):

    def test_told_ones(self):
        self.assertEqual(crossing(SQUARE, ((0, 0), (1, 1))), (((0, 1), (1, 0)),))
        self.assertEqual(crossing(SQUARE, ((0, 0), (0, 1))), ())
        self.assertEqual(crossing(GRID_THREE, ((0, 0), (1, 1))), (
            ((0, 1), (1, 0)), ((0, 1), (2, 0)), ((0, 2), (1, 0))))
        self.assertEqual(crossing(LAST_OFF, ((3, 3), (8, 7))), ())

    def test_all_of_them_rising(self):
        for field in SIXTEEN + SMALL + FIELDS[16:40]:
            told = ties(field)
            for tie in told:
                rest = crossing(field, tie)
                self.assertIs(rest.__class__, tuple)
                self.assertEqual(rest, tuple(other for other in told if cross(tie, other)))

    def test_each_is_the_others(self):
        found = {tie: crossing(GRID_THREE, tie) for tie in ties(GRID_THREE)}
        for one, other in itertools.product(found, repeat=2):
            self.assertEqual(one in found[other], other in found[one])
            self.assertEqual(one in found[other], do_cross(one, other))

    def test_by_names(self):
        self.assertEqual(crossing(tie=((0, 0), (1, 1)), field=SQUARE), (((0, 1), (1, 0)),))
