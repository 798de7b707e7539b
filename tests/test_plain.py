"""[6], [55], [60], [61]: the plain lay for told walls."""

import random
import unittest

from tests.samples import (
    BOTH_OFF, CIRCLE, CORNERS, FIELDS, FIRST_OFF, FLAT_ROW, GRID_FOUR, GRID_THREE, LADDER, LAST_OFF, LOW_ROW, NINES,
    OUTERMOST, OUTER_NINE, ROUND_NINE, SIXTEEN, SPOT, SQUARE, TWO_OFF, UPRIGHT_ROW, bowl)
from tests.shapes import do_cross
from tests.trying import (
    all_lays, hull_ties, lay_with_walls, many_walls, plain_lays, some_lays, ties_in, tried_circle, unplain_ties)
from threelays.errors import Crossed, LayError
from threelays.falls import fallen
from threelays.fractions import less
from threelays.laychecker import lets_lay
from threelays.lays import least_of, lift
from threelays.plain import plain_lay
from threelays.ties import ties
from threelays.turns import turned

UP, DOWN = (SQUARE[0], SQUARE[1], SQUARE[3]), (SQUARE[0], SQUARE[2], SQUARE[3])
FALLING, RISING = ((0, 1), (1, 0)), ((0, 0), (1, 1))
KITE = ((0, 0), (1, -3), (1, 3), (9, 0))


def grid_lay(wide, high):
    """A grid's squares, each cut by the tie from its least corner."""
    told = []
    for x in range(wide - 1):
        for y in range(high - 1):
            a, b, c, d = (x, y), (x, y + 1), (x + 1, y), (x + 1, y + 1)
            told += [(a, b, d), (a, c, d)]
    return tuple(sorted(told))


class PlainLayTests(unittest.TestCase):

    def test_told_ones(self):
        self.assertEqual(plain_lay(SPOT, ()), (SPOT,))
        self.assertEqual(plain_lay(SQUARE, ()), (UP, DOWN))
        self.assertEqual(plain_lay(SQUARE, (RISING,)), (UP, DOWN))
        self.assertEqual(plain_lay(SQUARE, (FALLING,)), (SQUARE[:3], SQUARE[1:]))
        self.assertEqual(plain_lay(KITE, ()), ((KITE[0], KITE[1], KITE[3]), (KITE[0], KITE[2], KITE[3])))
        self.assertEqual(plain_lay(KITE, (KITE[1:3],)), (KITE[:3], KITE[1:]))

    def test_grids(self):
        self.assertEqual(plain_lay(GRID_THREE, ()), grid_lay(3, 3))
        self.assertEqual(plain_lay(GRID_FOUR, ()), grid_lay(4, 4))
        self.assertEqual(plain_lay(LADDER, ()), grid_lay(2, 8))
        wall = ((1, 2), (2, 1))
        kept = [three for three in grid_lay(4, 4) if not {(1, 1), (2, 2)} <= set(three)]
        wanted = tuple(sorted(kept + [((1, 1), (1, 2), (2, 1)), ((1, 2), (2, 1), (2, 2))]))
        self.assertEqual(plain_lay(GRID_FOUR, (wall,)), wanted)

    def test_on_one_circle_all_have_the_least_point(self):
        for field in (CIRCLE, ROUND_NINE, CIRCLE[4:13], CORNERS):
            rim = hull_ties(field)
            self.assertTrue(all(field[0] in tie for tie in ties_in(plain_lay(field, ())) if tie not in rim))

    def test_just_one_lay_by_trying(self):
        for field in NINES:
            for walls in many_walls(field):
                self.assertEqual([plain_lay(field, walls)], plain_lays(field, walls))

    def test_each_tie_as_a_wall(self):
        for field in (SQUARE, GRID_THREE, OUTER_NINE, TWO_OFF, BOTH_OFF, bowl(6), KITE):
            for tie in ties(field):
                self.assertEqual([plain_lay(field, (tie,))], plain_lays(field, (tie,)))

    def test_sixteen_points(self):
        for field in FIELDS:
            for walls in many_walls(field):
                lay = plain_lay(field, walls)
                self.assertIs(lay.__class__, tuple)
                self.assertIs(lets_lay(field, lay), True)
                self.assertEqual(unplain_ties(field, walls, lay), [])
                self.assertLessEqual(set(walls), set(ties_in(lay)))

    def test_the_same_from_whatever_lay_one_falls(self):
        for field in SIXTEEN + FIELDS[-3:] + NINES[:20]:
            for walls in many_walls(field)[:4]:
                wanted = plain_lay(field, walls)
                for seed in range(3):
                    lay = lay_with_walls(field, walls, seed)
                    for tie in fallen(field, walls, lay):
                        lay = turned(field, lay, tie)
                    self.assertEqual(lay, wanted)

    def test_walls_of_a_whole_lay(self):
        for field in FIELDS:
            for lay in some_lays(field)[:2]:
                self.assertEqual(plain_lay(field, tuple(ties_in(lay))), lay)

    def test_hull_ties_as_walls_change_nothing(self):
        for field in FIELDS:
            self.assertEqual(plain_lay(field, tuple(sorted(hull_ties(field)))), plain_lay(field, ()))

    def test_its_own_ties_as_walls_change_nothing(self):
        for field in FIELDS[:30]:
            lay = plain_lay(field, ())
            for at in range(0, len(ties_in(lay)), 5):
                self.assertEqual(plain_lay(field, tuple(ties_in(lay)[at:at + 7])), lay)

    def test_all_but_one_or_two_on_a_line(self):
        for field in (LAST_OFF, FIRST_OFF, FLAT_ROW, LOW_ROW, UPRIGHT_ROW):
            self.assertEqual(plain_lay(field, ()), some_lays(field)[0])
        for field in (TWO_OFF, BOTH_OFF):
            self.assertEqual([plain_lay(field, ())], plain_lays(field, ()))

    def test_by_names(self):
        self.assertEqual(plain_lay(walls=(FALLING,), field=SQUARE), (SQUARE[:3], SQUARE[1:]))


class CrossedTests(unittest.TestCase):

    def tie_of(self, field, walls):
        with self.assertRaises(Crossed) as caught:
            plain_lay(field, walls)
        return caught.exception.tie

    def test_the_error(self):
        with self.assertRaises(LayError) as caught:
            plain_lay(SQUARE, (RISING, FALLING))
        self.assertIs(caught.exception.__class__, Crossed)
        self.assertEqual(vars(caught.exception), {"tie": RISING})

    def test_the_first_that_crosses_another_one(self):
        first = ((0, 0), (0, 1))
        self.assertEqual(self.tie_of(SQUARE, (first, RISING, FALLING)), RISING)
        self.assertEqual(self.tie_of(SQUARE, ties(SQUARE)), RISING)
        # The first one crosses the second and the third; without it these cross nothing.
        walls = (((0, 0), (1, 2)), ((0, 1), (1, 0)), ((0, 2), (1, 1)), ((1, 1), (2, 2)), ((1, 2), (2, 1)))
        self.assertEqual(self.tie_of(GRID_THREE, walls), ((0, 0), (1, 2)))
        self.assertEqual(self.tie_of(GRID_THREE, walls[1:]), ((1, 1), (2, 2)))

    def test_the_very_tie(self):
        walls = (((0, 0), (1, 1)), ((0, 1), (1, 0)))
        self.assertIs(self.tie_of(SQUARE, walls), walls[0])

    def test_some_by_chance(self):
        source = random.Random(55)
        seen = 0
        for field in FIELDS:
            for many in (2, 3, 5, 9):
                walls = tuple(sorted(source.sample(ties(field), min(many, len(ties(field))))))
                crossed = [tie for tie in walls if any(do_cross(tie, other) for other in walls)]
                if crossed:
                    self.assertEqual(self.tie_of(field, walls), crossed[0])
                    seen += crossed[0] != walls[0]
                else:
                    self.assertIs(lets_lay(field, plain_lay(field, walls)), True)
        self.assertGreater(seen, 20)


class PlainLayFollowsTests(unittest.TestCase):

    def test_no_point_within_a_circle(self):
        for field in FIELDS + (OUTERMOST,):
            for three in plain_lay(field, ()):
                self.assertTrue(all(tried_circle(three, point) < 1 for point in field))

    def test_no_lesser_lift(self):
        for field in NINES:
            for walls in many_walls(field)[:5]:
                having = [lay for lay in all_lays(field) if set(walls) <= set(ties_in(lay))]
                self.assertEqual(lift(plain_lay(field, walls)), min(lift(lay) for lay in having))

    def test_no_lesser_lift_of_sixteen(self):
        for field in SIXTEEN + FIELDS[-3:]:
            for lay in some_lays(field):
                self.assertLessEqual(lift(plain_lay(field, ())), lift(lay))

    def test_the_same_lift_just_where_empty(self):
        for field in NINES:
            least = lift(plain_lay(field, ()))
            for lay in all_lays(field)[:60]:
                empty = all(tried_circle(three, point) < 1 for three in lay for point in field)
                self.assertEqual(lift(lay) == least, empty)

    def test_no_greater_least_corner(self):
        for field in NINES + SIXTEEN:
            corner = least_of(plain_lay(field, ()))
            for lay in all_lays(field) if len(field) <= 9 else some_lays(field):
                self.assertFalse(less(least_of(lay), corner))

    def test_short_ties_are_in_it(self):
        def far(a, b):
            return (a[0] - b[0]) ** 2 + (a[1] - b[1]) ** 2

        for field in FIELDS:
            held = ties_in(plain_lay(field, ()))
            for a, b in ties(field):
                if all(far(a, b) < max(far(a, c), far(b, c)) for c in field if c not in (a, b)):
                    self.assertIn((a, b), held)
