"""[4], [53], [54]: circles, plain ties, empty lays."""

import itertools
import unittest

from tests.samples import (
    CIRCLE, CORNERS, FIELDS, FLAT_ROW, GRID_FOUR, GRID_THREE, LADDER, NEEDLE, NINES, OUTERMOST, SIXTEEN, SPOT, SQUARE,
    WHEEL)
from tests.shapes import doubled
from tests.trying import all_lays, hull_ties, some_lays, ties_in, tried_circle, tried_plain
from threelays.circles import circle, is_empty, is_plain
from threelays.turns import can_turn

LOW, HIGH = SQUARE[:3], SQUARE[1:]
UP, DOWN = (SQUARE[0], SQUARE[1], SQUARE[3]), (SQUARE[0], SQUARE[2], SQUARE[3])
FALLING, RISING = ((0, 1), (1, 0)), ((0, 0), (1, 1))


def some_of(field):
    return all_lays(field)[:40] if len(field) <= 9 else some_lays(field)


class CircleTests(unittest.TestCase):

    def test_told_ones(self):
        three = ((-5, 0), (0, 5), (5, 0))
        for point, wanted in (((0, 0), 1), ((3, 4), 0), ((0, -5), 0), ((4, -3), 0), ((4, 4), -1), ((-5, -1), -1),
                              ((4, 2), 1), ((0, -4), 1), ((0, -6), -1), ((1000, 1000), -1)):
            self.assertEqual(circle(three, point), wanted)
            self.assertIs(circle(three, point).__class__, int)

    def test_each_of_the_three_lies_on_it(self):
        for field in FIELDS[:30]:
            for three in list(itertools.combinations(field, 3))[:40]:
                if doubled(*three):
                    for point in three:
                        self.assertEqual(circle(three, point), 0)

    def test_both_ways_about(self):
        # The middle one of the three below and above the line between the others.
        for three in (((0, 0), (1, -5), (4, 0)), ((0, 0), (1, 5), (4, 0))):
            self.assertEqual(circle(three, (2, 0)), 1)
            self.assertEqual(circle(three, (20, 0)), -1)

    def test_by_the_middle(self):
        for field in (SQUARE, GRID_THREE, WHEEL, NEEDLE, CORNERS) + FIELDS[16:40]:
            for three in list(itertools.combinations(field, 3))[::3]:
                if doubled(*three):
                    for point in field + ((0, 0), (7, -3), (1000, -1000)):
                        self.assertEqual(circle(three, point), tried_circle(three, point))

    def test_points_on_one_circle(self):
        for three in list(itertools.combinations(CIRCLE, 3))[::7]:
            for point in CIRCLE:
                self.assertEqual(circle(three, point), 0)
            for point in GRID_THREE:
                self.assertEqual(circle(three, point), 1)
            for point in ((8, 2), (2, 8), (-8, 2), (6, 6), (-9, 0), (7, 5)):
                self.assertEqual(circle(three, point), -1)

    def test_at_the_outmost(self):
        three = CORNERS[:3]
        self.assertEqual(circle(three, CORNERS[3]), 0)
        self.assertEqual(circle(three, (1000, 999)), 1)
        self.assertEqual(circle(three, (1001, 1000)), -1)
        # A very flat three, whose circle is far greater than the field.
        flat = ((-1000, 0), (0, 1), (1000, 0))
        self.assertEqual(circle(flat, (0, 0)), 1)
        self.assertEqual(circle(flat, (0, -1000)), 1)
        self.assertEqual(circle(flat, (0, 2)), -1)
        for three in list(itertools.combinations(OUTERMOST, 3))[::5]:
            if doubled(*three):
                for point in OUTERMOST:
                    self.assertEqual(circle(three, point), tried_circle(three, point))

    def test_others_may_lie_in_them(self):
        self.assertEqual(circle(((0, 0), (0, 9), (9, 0)), (1, 1)), 1)

    def test_by_names(self):
        self.assertEqual(circle(point=(1, 1), corners=SPOT), 0)


class IsPlainTests(unittest.TestCase):

    def test_told_ones(self):
        # All four lie on one circle: the tie that has the least of them is plain.
        self.assertIs(is_plain(SQUARE, (UP, DOWN), RISING), True)
        self.assertIs(is_plain(SQUARE, (LOW, HIGH), FALLING), False)
        kite = ((0, 0), (1, -3), (1, 3), (9, 0))
        along = ((kite[0], kite[1], kite[3]), (kite[0], kite[2], kite[3]))
        self.assertIs(is_plain(kite, along, (kite[0], kite[3])), True)
        self.assertIs(is_plain(kite, (kite[:3], kite[1:]), kite[1:3]), False)
        slim = ((0, 0), (1, -1), (1, 1), (9, 0))
        self.assertIs(is_plain(slim, (slim[:3], slim[1:]), slim[1:3]), True)
        along = ((slim[0], slim[1], slim[3]), (slim[0], slim[2], slim[3]))
        self.assertIs(is_plain(slim, along, (slim[0], slim[3])), False)

    def test_each_inner_tie(self):
        seen = set()
        for field in FIELDS:
            rim = hull_ties(field)
            for lay in some_of(field):
                for tie in ties_in(lay):
                    if tie not in rim:
                        told = is_plain(field, lay, tie)
                        self.assertIs(told, tried_plain(lay, tie))
                        seen.add(told)
        self.assertEqual(seen, {True, False})

    def test_four_on_one_circle(self):
        for four in itertools.combinations(CIRCLE, 4):
            for lay in all_lays(four):
                tie = [tie for tie in ties_in(lay) if tie not in hull_ties(four)][0]
                self.assertIs(is_plain(four, lay, tie), four[0] in tie)

    def test_what_is_not_plain_can_be_turned(self):
        for field in FIELDS:
            rim = hull_ties(field)
            for lay in some_of(field):
                for tie in ties_in(lay):
                    if tie not in rim and not is_plain(field, lay, tie):
                        self.assertIs(can_turn(field, lay, tie), True)

    def test_what_comes_in_its_place_is_plain(self):
        for field in NINES[:40]:
            rim = hull_ties(field)
            for lay in all_lays(field)[:20]:
                for tie in ties_in(lay):
                    if tie not in rim and can_turn(field, lay, tie):
                        four = tuple(sorted({point for three in lay if set(tie) <= set(three) for point in three}))
                        found = [is_plain(four, pair, [one for one in ties_in(pair) if one not in hull_ties(four)][0])
                                 for pair in all_lays(four)]
                        self.assertEqual(sorted(found), [False, True])

    def test_by_names(self):
        self.assertIs(is_plain(tie=RISING, lay=(UP, DOWN), field=SQUARE), True)


class IsEmptyTests(unittest.TestCase):

    def test_told_ones(self):
        self.assertIs(is_empty(SPOT, (SPOT,)), True)
        # Points on a circle do nothing.
        self.assertIs(is_empty(SQUARE, (UP, DOWN)), True)
        self.assertIs(is_empty(SQUARE, (LOW, HIGH)), True)
        kite = ((0, 0), (1, -3), (1, 3), (9, 0))
        self.assertIs(is_empty(kite, (kite[:3], kite[1:])), False)
        self.assertIs(is_empty(kite, ((kite[0], kite[1], kite[3]), (kite[0], kite[2], kite[3]))), True)

    def test_all_on_one_circle(self):
        for field in (CIRCLE, CIRCLE[:9], CIRCLE[3:12]):
            for lay in some_lays(field):
                self.assertIs(is_empty(field, lay), True)

    def test_each_triangle_and_point(self):
        seen = set()
        for field in NINES + SIXTEEN + (WHEEL,):
            for lay in some_of(field):
                wanted = all(tried_circle(three, point) < 1 for three in lay for point in field)
                self.assertIs(is_empty(field, lay), wanted)
                seen.add(wanted)
        self.assertEqual(seen, {True, False})

    def test_lines_and_grids(self):
        for field in (FLAT_ROW, LADDER, GRID_FOUR):
            found = [is_empty(field, lay) for lay in some_lays(field)]
            self.assertEqual(found, [all(
                tried_circle(three, point) < 1 for three in lay for point in field) for lay in some_lays(field)])

    def test_by_names(self):
        self.assertIs(is_empty(lay=(SPOT,), field=SPOT), True)
