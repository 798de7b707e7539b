"""[43]: the least weight of the lays of a menu, and a lay that has it."""

import unittest

from tests.samples import (
    BOTH_OFF, CIRCLE, CORNERS, FIRST_OFF, GRID_THREE, LAST_OFF, NINES, OUTER_EIGHT, OUTER_NINE, ROUND_NINE, SPOT,
    SQUARE, TWO_COLUMNS, TWO_OFF, bowl)
from tests.trying import all_lays, lays_of_menu, many_menus, many_ties, many_weights, ties_in, weigh
from threelays.errors import LayError, NoLay
from threelays.laychecker import lets_lay
from threelays.lays import weight
from threelays.leasts import least
from threelays.menus import no_longer, with_ties, without_ties
from threelays.ties import ties
from threelays.triangles import triangles

LOW, HIGH = SQUARE[:3], SQUARE[1:]
UP, DOWN = (SQUARE[0], SQUARE[1], SQUARE[3]), (SQUARE[0], SQUARE[2], SQUARE[3])


class LeastTests(unittest.TestCase):

    def look(self, field, weights, menu):
        """The least weight against all lays of the menu, found by trying."""
        lays = lays_of_menu(all_lays(field), menu)
        if not lays:
            with self.assertRaises(NoLay):
                least(field, weights, menu)
            return
        told = least(field, weights, menu)
        self.assertIs(told.__class__, tuple)
        number, lay = told
        self.assertIs(number.__class__, int)
        self.assertEqual(number, min(weigh(field, weights, other) for other in lays))
        self.assertIn(lay, lays)
        self.assertEqual(weigh(field, weights, lay), number)
        self.assertEqual(weight(field, weights, lay), number)
        self.assertIs(lets_lay(field, lay), True)

    def test_told_ones(self):
        self.assertEqual(least(SPOT, (1, 2, 4), (SPOT,)), (7, (SPOT,)))
        self.assertEqual(least(SQUARE, (1, 2, 3, 4, 5, 6), triangles(SQUARE)), (17, (UP, DOWN)))
        self.assertEqual(least(SQUARE, (1, 2, 4, 3, 5, 6), triangles(SQUARE)), (17, (LOW, HIGH)))
        self.assertEqual(least(SQUARE, (1, 2, 3, 4, 5, 6), (LOW, HIGH)), (18, (LOW, HIGH)))

    def test_against_all_lays(self):
        for at, field in enumerate(NINES[::2]):
            for weights in many_weights(at, field)[3:]:
                self.look(field, weights, triangles(field))

    def test_menus(self):
        for at, field in enumerate(NINES[:36]):
            for menu in many_menus(at, field):
                for weights in many_weights(at, field)[::3]:
                    self.look(field, weights, menu)

    def test_weights_all_0_and_all_alike(self):
        for field in NINES:
            many = len(ties(field))
            for each in (0, 1, 1000000):
                number, lay = least(field, (each,) * many, triangles(field))
                self.assertEqual(number, each * many_ties(field))
                self.assertIn(lay, all_lays(field))

    def test_one_alone_above_0(self):
        for field in (SQUARE, CORNERS, GRID_THREE, TWO_OFF, BOTH_OFF, OUTER_EIGHT, bowl(6)):
            order = ties(field)
            for at, tie in enumerate(order):
                weights = tuple(1000000 if place == at else 0 for place in range(len(order)))
                number, lay = least(field, weights, triangles(field))
                avoided = any(tie not in ties_in(other) for other in all_lays(field))
                self.assertEqual(number, 0 if avoided else 1000000)
                self.assertEqual(tie in ties_in(lay), not avoided)

    def test_fields_of_nine(self):
        for field in (GRID_THREE, OUTER_NINE, ROUND_NINE, TWO_OFF, BOTH_OFF, LAST_OFF, FIRST_OFF, bowl(9)):
            for weights in many_weights(9, field):
                self.look(field, weights, triangles(field))

    def test_menus_without_a_lay(self):
        for field in NINES:
            weights = many_weights(43, field)[-1]
            for menu in ((), no_longer(field, 0), without_ties(field, ties(field)[:1]), all_lays(field)[0][1:]):
                for told in (weights, (0,) * len(weights)):
                    with self.assertRaises(NoLay):
                        least(field, told, menu)

    def test_menus_with_a_tie(self):
        for field in (TWO_COLUMNS, TWO_OFF, OUTER_EIGHT):
            for at, tie in enumerate(ties(field)):
                self.look(field, many_weights(at, field)[-1], with_ties(field, (tie,)))

    def test_the_error(self):
        with self.assertRaises(LayError) as caught:
            least(SPOT, (0, 0, 0), ())
        self.assertIs(caught.exception.__class__, NoLay)

    def test_somewhat_beyond_the_bounds(self):
        field = CIRCLE[:11]
        number, lay = least(field, (10 ** 30,) * len(ties(field)), triangles(field))
        self.assertEqual(number, 10 ** 30 * many_ties(field))
        self.assertIs(lets_lay(field, lay), True)

    def test_by_names(self):
        self.assertEqual(least(menu=(SPOT,), weights=(1, 2, 4), field=SPOT), (7, (SPOT,)))
