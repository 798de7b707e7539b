"""[63], [66]: far papers."""

import itertools
import unittest

from tests.samples import SPOT, SQUARE, bowl
from tests.test_distances import SEVENS, SMALL_ONES, apart
from tests.test_farchecker import DOWN, HIGH, LOW, UP, wanted
from tests.trying import all_lays
from threelays.distances import fewest
from threelays.farchecker import lets_far
from threelays.farpapers import far_paper


class FarPaperTests(unittest.TestCase):

    def look(self, field, one, other, far):
        paper = far_paper(field, one, other)
        self.assertIs(paper.__class__, tuple)
        self.assertIs(paper[0].__class__, int)
        self.assertEqual(paper[0], far)
        self.assertEqual(wanted(field, one, other, paper), far)
        self.assertEqual(lets_far(field, one, other, paper), far)
        self.assertEqual(len(fewest(field, one, other)), far)

    def test_told_ones(self):
        self.look(SPOT, (SPOT,), (SPOT,), 0)
        self.look(SQUARE, (LOW, HIGH), (UP, DOWN), 1)
        self.look(SQUARE, (UP, DOWN), (LOW, HIGH), 1)
        self.look(SQUARE, (UP, DOWN), (UP, DOWN), 0)

    def test_all_pairs_of_small_fields(self):
        for field in SMALL_ONES:
            for one in all_lays(field)[:12]:
                for other, far in apart(field, one).items():
                    self.look(field, one, other, far)

    def test_seven_points(self):
        for field in SEVENS:
            lays = all_lays(field)
            told = apart(field, lays[0])
            # The farthest ones among them.
            for other in sorted(lays, key=lambda lay: told[lay])[-3:] + [lays[-1]]:
                self.look(field, lays[0], other, told[other])
                self.look(field, other, lays[0], told[other])

    def test_somewhat_beyond_seven_points(self):
        field = bowl(8)
        one, other = all_lays(field)[0], all_lays(field)[-1]
        self.assertEqual(lets_far(field, one, other, far_paper(field, one, other)), apart(field, one)[other])

    def test_by_names_and_again(self):
        for one, other in itertools.product(((LOW, HIGH), (UP, DOWN)), repeat=2):
            self.assertEqual(far_paper(other=other, field=SQUARE, one=one)[0], one != other)
            self.assertEqual(far_paper(SQUARE, one, other), far_paper(SQUARE, one, other))
