"""[36], [39]: count papers that are told."""

import unittest

from tests.samples import (
    BOTH_OFF, CIRCLE, FIRST_OFF, GRID_THREE, LAST_OFF, NINES, OUTER_NINE, ROUND_NINE, SPOT, SQUARE, TWO_OFF, bowl)
from tests.trying import all_lays, all_fronts, lays_of_menu, many_menus, tried_advances
from threelays.countchecker import lets_count
from threelays.countpapers import count_paper
from threelays.counting import count
from threelays.fields import lower, upper
from threelays.menus import no_longer, with_ties, without_ties
from threelays.ties import ties
from threelays.triangles import triangles


def is_right(field, menu, paper):
    """By the words of the document, whatever the checker says."""
    if paper.__class__ is not tuple or not paper or paper[-1][:2] != (lower(field), 0):
        return False
    for at, row in enumerate(paper):
        front, mark, number = row
        if row.__class__ is not tuple or number.__class__ is not int or mark.__class__ is not int:
            return False
        if front not in all_fronts(field) or not 0 <= mark <= len(front) - 2:
            return False
        total = 1
        if front != upper(field):
            total = 0
            for place, three, came in tried_advances(menu, front, mark):
                ahead = [other for other in paper[:at] if other[:2] == (came, place)]
                if not ahead:
                    return False
                total += ahead[-1][2]
        if number != total:
            return False
    return True


class CountPaperTests(unittest.TestCase):

    def test_told_ones(self):
        paper = count_paper(SPOT, (SPOT,))
        self.assertEqual(lets_count(SPOT, (SPOT,), paper), 1)
        self.assertEqual(paper[-1], (lower(SPOT), 0, 1))
        self.assertEqual(lets_count(SQUARE, triangles(SQUARE), count_paper(SQUARE, triangles(SQUARE))), 2)
        menu = triangles(GRID_THREE)
        self.assertEqual(lets_count(GRID_THREE, menu, count_paper(GRID_THREE, menu)), 64)

    def test_let_by_with_the_count(self):
        for at, field in enumerate(NINES):
            for menu in many_menus(at, field):
                paper = count_paper(field, menu)
                self.assertIs(paper.__class__, tuple)
                wanted = len(lays_of_menu(all_lays(field), menu))
                self.assertEqual(lets_count(field, menu, paper), wanted)
                self.assertEqual(count(field, menu), wanted)

    def test_by_the_words_of_the_document(self):
        for at, field in enumerate(NINES[:30]):
            for menu in many_menus(at, field)[::2]:
                self.assertTrue(is_right(field, menu, count_paper(field, menu)))

    def test_where_the_count_is_0(self):
        for field in NINES:
            told = [(), triangles(field)[:1], all_lays(field)[0][1:], no_longer(field, -1), no_longer(field, 0)]
            told += [without_ties(field, ties(field)[:1])]
            for menu in told:
                if count(field, menu) == 0:
                    paper = count_paper(field, menu)
                    self.assertEqual(paper[-1], (lower(field), 0, 0))
                    self.assertEqual(lets_count(field, menu, paper), 0)
            # The first tie of a field is a hull tie, so no lay does without it.
            self.assertEqual(lets_count(field, told[-1], count_paper(field, told[-1])), 0)

    def test_menus_with_a_tie(self):
        for field in (GRID_THREE, OUTER_NINE, TWO_OFF, BOTH_OFF, ROUND_NINE):
            for tie in ties(field)[::3]:
                menu = with_ties(field, (tie,))
                self.assertEqual(lets_count(field, menu, count_paper(field, menu)), count(field, menu))

    def test_lines_and_rounds(self):
        for field, wanted in ((LAST_OFF, 1), (FIRST_OFF, 1), (bowl(9), 429), (ROUND_NINE, 429), (OUTER_NINE, 64)):
            self.assertEqual(lets_count(field, triangles(field), count_paper(field, triangles(field))), wanted)

    def test_somewhat_beyond_nine_points(self):
        field = CIRCLE[:10]
        self.assertEqual(lets_count(field, triangles(field), count_paper(field, triangles(field))), 1430)

    def test_by_names(self):
        self.assertEqual(count_paper(menu=(), field=SPOT), ((lower(SPOT), 0, 0),))
