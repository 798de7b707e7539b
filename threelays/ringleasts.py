"""The least that a LAY of a RING weighs."""

from threelays.rings import middles, place_pairs, ring_triangles


def weights_by_pairs(ring, weights):
    """Tell the RING WEIGHTS of a RING as a dict of pairs of PLACES."""
    return dict(zip(sorted(place_pairs(len(ring))), weights))


def ways_between(ring, held, best, i, j):
    """Tell what lies between two PLACES, for each way to part it by a TRIANGLE: tuples of a weight and TRIANGLES."""
    told = []
    for k in middles(ring, held, i, j):
        one = best[(i, k)]
        other = best[(k, j)]
        triangle = tuple(sorted((ring[i], ring[k], ring[j])))
        told.append((one[0] + other[0], one[1] + other[1] + (triangle,)))
    return told


def ring_least(ring, weights):
    """Tell the least that a LAY of a RING weighs, and a LAY of it that weighs so much."""
    by_pairs = weights_by_pairs(ring, weights)
    held = ring_triangles(ring)
    best = {}
    for i, j in place_pairs(len(ring)):
        ways = [(0, ())] if j == i + 1 else ways_between(ring, held, best, i, j)
        # A pair that no TRIANGLE has as a side has no way, and nothing asks for it.
        if ways:
            number, taken = min(ways)
            best[(i, j)] = (number + by_pairs[(i, j)], taken)
    number, taken = best[(0, len(ring) - 1)]
    return (number, tuple(sorted(taken)))
