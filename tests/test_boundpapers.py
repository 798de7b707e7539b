"""[46]: bound papers that are told."""

import unittest

from tests.samples import (
    BOTH_OFF, CIRCLE, FIRST_OFF, GRID_THREE, LAST_OFF, NINES, OUTER_NINE, ROUND_NINE, SPOT, SQUARE, TWO_OFF, bowl)
from tests.test_boundchecker import wanted
from tests.trying import all_lays, lays_of_menu, many_menus, many_ties, many_weights, weigh
from threelays.boundchecker import lets_bound
from threelays.boundpapers import bound_paper
from threelays.fields import lower
from threelays.leasts import least
from threelays.menus import no_longer, without_ties
from threelays.ties import ties
from threelays.triangles import triangles


class BoundPaperTests(unittest.TestCase):

    def look(self, field, weights, menu):
        paper = bound_paper(field, weights, menu)
        self.assertIs(paper.__class__, tuple)
        self.assertTrue(all(row.__class__ is tuple for row in paper))
        told = lets_bound(field, weights, menu, paper)
        lays = lays_of_menu(all_lays(field), menu)
        if lays:
            self.assertEqual(told, min(weigh(field, weights, lay) for lay in lays))
            self.assertEqual(told, least(field, weights, menu)[0])

    def test_told_ones(self):
        self.assertEqual(lets_bound(SPOT, (1, 2, 4), (SPOT,), bound_paper(SPOT, (1, 2, 4), (SPOT,))), 7)
        menu = triangles(SQUARE)
        for weights, bound in (((1, 2, 3, 4, 5, 6), 17), ((1, 2, 4, 3, 5, 6), 17), ((0,) * 6, 0), ((9,) * 6, 45)):
            self.assertEqual(lets_bound(SQUARE, weights, menu, bound_paper(SQUARE, weights, menu)), bound)

    def test_the_bound_is_the_least_weight(self):
        for at, field in enumerate(NINES[::2]):
            for weights in many_weights(at, field)[2:]:
                self.look(field, weights, triangles(field))

    def test_menus(self):
        for at, field in enumerate(NINES[:36]):
            for menu in many_menus(at, field):
                for weights in many_weights(at, field)[::3]:
                    self.look(field, weights, menu)

    def test_by_the_words_of_the_document(self):
        for at, field in enumerate(NINES[:24]):
            for menu in many_menus(at, field)[::3]:
                weights = many_weights(at, field)[-1]
                paper = bound_paper(field, weights, menu)
                self.assertEqual(wanted(field, weights, menu, paper), lets_bound(field, weights, menu, paper))

    def test_fields_of_nine(self):
        for field in (GRID_THREE, OUTER_NINE, ROUND_NINE, TWO_OFF, BOTH_OFF, LAST_OFF, FIRST_OFF, bowl(9)):
            for weights in many_weights(9, field):
                self.look(field, weights, triangles(field))

    def test_menus_without_a_lay(self):
        for field in NINES:
            weights = many_weights(46, field)[-1]
            for menu in ((), no_longer(field, 0), without_ties(field, ties(field)[:1]), all_lays(field)[0][1:]):
                paper = bound_paper(field, weights, menu)
                self.assertIs(lets_bound(field, weights, menu, paper).__class__, int)
                self.assertIn(lower(field), [front for front, number in paper])

    def test_somewhat_beyond_the_bounds(self):
        field = CIRCLE[:11]
        weights = (10 ** 30,) * len(ties(field))
        paper = bound_paper(field, weights, triangles(field))
        self.assertEqual(lets_bound(field, weights, triangles(field), paper), 10 ** 30 * many_ties(field))

    def test_by_names(self):
        told = bound_paper(menu=(SPOT,), weights=(1, 2, 4), field=SPOT)
        self.assertEqual(lets_bound(SPOT, (1, 2, 4), (SPOT,), told), 7)
