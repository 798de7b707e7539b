"""[72], [73]: ring papers."""

import unittest

from tests.roundtrying import RINGS, SPOT_RING, SQUARE_RING, bowl_ring, made_ring, ring_lays
from tests.test_ringchecker import wanted
from threelays.ringchecker import lets_ring
from threelays.ringpapers import ring_paper


class RingPaperTests(unittest.TestCase):

    def look(self, ring, number):
        paper = ring_paper(ring)
        self.assertIs(paper.__class__, tuple)
        self.assertEqual(wanted(ring, paper), number)
        self.assertEqual(lets_ring(ring, paper), number)

    def test_rings(self):
        self.look(SPOT_RING, 1)
        self.look(SQUARE_RING, 2)
        for ring in RINGS + (made_ring(4, 11, 4),):
            self.look(ring, len(ring_lays(ring)))

    def test_without_inward_or_flat_corners(self):
        for many, number in enumerate((1, 2, 5, 14, 42, 132, 429, 1430, 4862, 16796), 3):
            self.look(bowl_ring(many), number)

    def test_by_name_and_again(self):
        self.assertEqual(ring_paper(ring=SQUARE_RING), ring_paper(SQUARE_RING))
