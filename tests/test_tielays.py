"""[6], [24], [25]: the lay that has told ties."""

import itertools
import random
import unittest

from tests.samples import (
    CIRCLE, CORNERS, FIELDS, FIRST_OFF, FLAT_ROW, GRID_FOUR, GRID_THREE, LAST_OFF, NEEDLE, NINES, SIXTEEN, SMALL, SPOT,
    SQUARE)
from tests.shapes import do_cross
from tests.trying import all_lays, crossed_pairs, hull_ties, many_ties, sides, some_lays
from threelays.errors import NoLay
from threelays.lays import ties_of
from threelays.tielays import lay_of
from threelays.ties import cross, ties

FALLING = ((0, 1), (1, 0))
RISING = ((0, 0), (1, 1))


def tied(lay):
    return tuple(sorted({side for three in lay for side in sides(three)}))


def put_in(some, tie):
    return tuple(sorted(some + (tie,)))


class LayOfTests(unittest.TestCase):

    def refuse(self, field, some):
        with self.assertRaises(NoLay) as caught:
            lay_of(field, some)
        self.assertIs(caught.exception.__class__, NoLay)

    def test_told_ones(self):
        self.assertEqual(lay_of(SPOT, sides(SPOT)), (SPOT,))
        rim = tuple(sorted(hull_ties(SQUARE)))
        self.assertEqual(lay_of(SQUARE, put_in(rim, FALLING)), (SQUARE[:3], SQUARE[1:]))
        self.assertEqual(lay_of(SQUARE, put_in(rim, RISING)), (
            (SQUARE[0], SQUARE[1], SQUARE[3]), (SQUARE[0], SQUARE[2], SQUARE[3])))
        self.assertEqual(lay_of(NEEDLE, ties(NEEDLE)), all_lays(NEEDLE)[0])

    def test_each_lay_by_its_ties(self):
        for field in NINES:
            for lay in all_lays(field)[:70]:
                told = lay_of(field, tied(lay))
                self.assertIs(told.__class__, tuple)
                self.assertEqual(told, lay)

    def test_sixteen_points(self):
        for field in FIELDS:
            for lay in some_lays(field):
                self.assertEqual(lay_of(field, tied(lay)), lay)
                self.assertEqual(ties_of(lay_of(field, tied(lay))), tied(lay))

    def test_none(self):
        for field in SMALL + SIXTEEN:
            self.refuse(field, ())

    def test_one_too_few(self):
        for field in SMALL + SIXTEEN:
            held = tied(some_lays(field)[0])
            for at in range(len(held)):
                self.refuse(field, held[:at] + held[at + 1:])

    def test_one_too_many(self):
        for field in SMALL + SIXTEEN:
            held = tied(some_lays(field)[0])
            for tie in ties(field):
                if tie not in held:
                    self.refuse(field, put_in(held, tie))

    def test_so_many_but_two_cross(self):
        for field in (SQUARE, CORNERS, GRID_THREE, CIRCLE, GRID_FOUR):
            held = tied(some_lays(field)[0])
            inner = [tie for tie in held if tie not in hull_ties(field)]
            for tie in ties(field):
                for gone in inner:
                    some = put_in(tuple(other for other in held if other != gone), tie)
                    if tie not in held and any(cross(tie, other) for other in some):
                        self.refuse(field, some)

    def test_so_many_without_a_hull_tie(self):
        for gone in hull_ties(SQUARE):
            self.refuse(SQUARE, tuple(tie for tie in ties(SQUARE) if tie != gone))

    def test_all_ties(self):
        for field in SMALL + SIXTEEN:
            if len(ties(field)) == many_ties(field):
                self.assertEqual(lay_of(field, ties(field)), some_lays(field)[0])
            else:
                self.refuse(field, ties(field))
        for field in (SPOT, NEEDLE, LAST_OFF, FIRST_OFF, FLAT_ROW):
            self.assertEqual(lay_of(field, ties(field)), all_lays(field)[0])

    def test_by_names(self):
        self.assertEqual(lay_of(some=sides(SPOT), field=SPOT), (SPOT,))


class FollowsTests(unittest.TestCase):

    def test_one_just_where_so_many_do_not_cross(self):
        for field in NINES:
            all_ties = ties(field)
            if len(all_ties) > 10:
                continue
            found = []
            for many in range(len(all_ties) + 1):
                for some in itertools.combinations(all_ties, many):
                    try:
                        found.append(lay_of(field, some))
                        self.assertTrue(many == many_ties(field) and not crossed_pairs(some))
                    except NoLay:
                        self.assertTrue(many != many_ties(field) or crossed_pairs(some))
            self.assertEqual(tuple(sorted(found)), all_lays(field))

    def test_fewer_that_do_not_cross_leave_room(self):
        source = random.Random(25)
        for field in NINES[:40] + (GRID_FOUR, CIRCLE):
            for lay in some_lays(field):
                held = tied(lay)
                for step in range(3):
                    some = sorted(source.sample(held, source.randrange(len(held))))
                    others = [tie for tie in ties(field) if tie not in some]
                    self.assertTrue(any(not any(do_cross(tie, own) for own in some) for tie in others))

    def test_so_many_that_do_not_cross_whatever_the_order(self):
        source = random.Random(24)
        for field in NINES[:40]:
            order = list(ties(field))
            source.shuffle(order)
            taken = []
            for tie in order:
                if not any(do_cross(tie, own) for own in taken):
                    taken.append(tie)
            self.assertEqual(len(taken), many_ties(field))
            self.assertIn(lay_of(field, tuple(sorted(taken))), all_lays(field))
