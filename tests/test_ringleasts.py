"""[74]: the least that a lay of a ring weighs."""

import random
import unittest

from tests.roundtrying import (
    DART, HOOK, RIM_TWELVE, RINGS, SPOT_RING, SQUARE_RING, all_pairs, bowl_ring, ring_lays, weigh_ring)
from threelays.ringleasts import ring_least


def many_ring_weights(seed, ring):
    """Ring weights: all 0, all 1000000, all but one alike, by lengths, by chance."""
    source = random.Random(seed)
    pairs = all_pairs(len(ring))
    one = source.randrange(len(pairs))
    lengths = [(ring[i][0] - ring[j][0]) ** 2 + (ring[i][1] - ring[j][1]) ** 2 for i, j in pairs]
    return [
        (0,) * len(pairs), (1000000,) * len(pairs), tuple(7 if at == one else 3 for at in range(len(pairs))),
        tuple(0 if at == one else 1000000 for at in range(len(pairs))),
        tuple(1000000 if at == one else 0 for at in range(len(pairs))), tuple(min(1000000, far) for far in lengths),
        tuple(source.randint(0, 3) for pair in pairs), tuple(source.randint(0, 1000000) for pair in pairs)]


class RingLeastTests(unittest.TestCase):

    def look(self, ring, weights):
        told = ring_least(ring, weights)
        self.assertIs(told.__class__, tuple)
        number, lay = told
        self.assertIs(number.__class__, int)
        self.assertIn(lay, ring_lays(ring))
        self.assertEqual(number, weigh_ring(ring, weights, lay))
        self.assertEqual(number, min(weigh_ring(ring, weights, other) for other in ring_lays(ring)))

    def test_told_ones(self):
        self.assertEqual(ring_least(SPOT_RING, (1, 2, 4)), (7, (((0, 0), (0, 1), (1, 0)),)))
        # The pairs rise: (0, 1), (0, 2), (0, 3), (1, 2), (1, 3), (2, 3).
        low = (((0, 0), (0, 1), (1, 0)), ((0, 1), (1, 0), (1, 1)))
        up = (((0, 0), (0, 1), (1, 1)), ((0, 0), (1, 0), (1, 1)))
        self.assertEqual(ring_least(SQUARE_RING, (1, 20, 2, 4, 10, 8)), (25, low))
        self.assertEqual(ring_least(SQUARE_RING, (1, 10, 2, 4, 20, 8)), (25, up))
        # A pair that no triangle has as a side does not weigh.
        self.assertEqual(ring_least(DART, (1, 2, 4, 8, 1000000, 16))[0], 31)
        self.assertEqual(ring_least(DART, (1, 2, 4, 8, 0, 16))[0], 31)

    def test_all_alike(self):
        for ring in RINGS:
            pairs = len(all_pairs(len(ring)))
            for weight in (0, 1, 1000000):
                self.assertEqual(ring_least(ring, (weight,) * pairs)[0], weight * (2 * len(ring) - 3))

    def test_against_trying(self):
        for seed, ring in enumerate(RINGS):
            if len(ring_lays(ring)) < 150:
                for weights in many_ring_weights(seed, ring):
                    self.look(ring, weights)

    def test_twelve_points(self):
        for ring in (HOOK, RIM_TWELVE):
            for weights in many_ring_weights(74, ring)[5:]:
                self.look(ring, weights)

    def test_one_side_alone_is_wanted(self):
        # Each way across that costs nothing where all else does is gone.
        ring = bowl_ring(6)
        for at, (i, j) in enumerate(all_pairs(6)):
            weights = tuple(0 if place == at else 10 for place in range(15))
            number, lay = ring_least(ring, weights)
            self.assertEqual(number, 80)
            self.assertTrue(any(ring[i] in three and ring[j] in three for three in lay))

    def test_by_names_and_again(self):
        weights = many_ring_weights(1, HOOK)[-1]
        self.assertEqual(ring_least(weights=weights, ring=HOOK), ring_least(HOOK, weights))
