"""[76], [77], [78]: web rows, web papers, and the rows of numbers that they are made by."""

import itertools
import random
import unittest

from tests.samples import MANY, SPOT, SQUARE, bowl, made_field
from tests.test_webchecker import wanted
from tests.trying import all_lays, many_ties
from tests.webtrying import SIXES, times_rows, tried_web_row, uncrossed, with_rows
from threelays.counting import count
from threelays.fields import hull
from threelays.numberrows import row_times, row_with
from threelays.triangles import triangles
from threelays.webchecker import lets_web
from threelays.webpapers import web_paper
from threelays.webs import web_row


def divided(row):
    """The row that (1, 1) TIMES makes a row; None where there is none."""
    told, left = [], 0
    for number in row[:-1]:
        left = number - left
        told.append(left)
    return tuple(told) if left == row[-1] else None


class NumberRowTests(unittest.TestCase):

    def test_told_ones(self):
        self.assertEqual(row_with((1,), (1,)), (1, 1))
        self.assertEqual(row_with((1, 2, 3), (1,)), (1, 3, 3))
        self.assertEqual(row_with((5,), (1, 2, 3)), (5, 1, 2, 3))
        self.assertEqual(row_with((0,), (0,)), (0, 0))
        self.assertEqual(row_times((1, 1), (1, 1)), (1, 2, 1))
        self.assertEqual(row_times((1,), (1,)), (1,))
        self.assertEqual(row_times((2, 0), (3, 1, 4)), (6, 2, 8, 0))

    def test_against_trying(self):
        source = random.Random(77)
        rows = [tuple(source.randint(-3, 9) for place in range(many)) for many in (1, 1, 2, 3, 5, 8)] + [(MANY, -MANY)]
        for one, other in itertools.product(rows, repeat=2):
            self.assertEqual(row_with(one, other), with_rows(one, other))
            self.assertEqual(row_times(one, other), times_rows(one, other))


class WebRowTests(unittest.TestCase):

    def test_told_ones(self):
        self.assertEqual(web_row(SPOT), (1, 3, 3, 1))
        self.assertEqual(web_row(SQUARE), (1, 6, 14, 16, 9, 2))

    def test_on_a_round(self):
        # So many webs there are in all of three to six points without inward or flat corners.
        for many, total in ((3, 8), (4, 48), (5, 352), (6, 2880)):
            self.assertEqual(sum(web_row(bowl(many))), total)

    def test_against_trying(self):
        for field in SIXES:
            told = web_row(field)
            self.assertIs(told.__class__, tuple)
            self.assertEqual(told, tried_web_row(field))

    def test_its_last_number_is_the_count_of_all_lays(self):
        for field in SIXES:
            told = web_row(field)
            self.assertEqual(len(told) - 1, many_ties(field))
            self.assertEqual(told[-1], count(field, triangles(field)))
            self.assertEqual(told[-1], len(all_lays(field)))

    def test_added_and_taken_away_by_turns(self):
        for field in SIXES:
            self.assertEqual(sum(web_row(field)[::2]), sum(web_row(field)[1::2]))

    def test_each_tie_that_none_crosses(self):
        for field in SIXES:
            row = web_row(field)
            self.assertGreaterEqual(len(uncrossed(field)), len(hull(field)))
            for tie in uncrossed(field):
                row = divided(row)
                self.assertIsNotNone(row)

    def test_somewhat_beyond_six_points(self):
        for field in (bowl(7), made_field(8, 7, 3)):
            self.assertEqual(web_row(field), tried_web_row(field))
        self.assertEqual(sum(web_row(bowl(8))), 231168)

    def test_by_name_and_again(self):
        self.assertEqual(web_row(field=SQUARE), web_row(SQUARE))


class WebPaperTests(unittest.TestCase):

    def test_let_by(self):
        for field in SIXES:
            paper = web_paper(field)
            self.assertIs(paper.__class__, tuple)
            self.assertEqual(lets_web(field, paper), tried_web_row(field))
            self.assertEqual(wanted(field, paper), tried_web_row(field))

    def test_by_name_and_again(self):
        self.assertEqual(web_paper(field=SQUARE), web_paper(SQUARE))
