"""Rings, their triangles and lays found slowly, by trying, by the words of the document.

What the tests hold the program's answers against; of the program only the fields' triangles are taken, which have
tests of their own.
"""

import functools
import itertools
import random

from tests.samples import on_one_line
from tests.shapes import common_area, doubled, places_in_common
from tests.trying import lie_over, sides, size
from threelays.triangles import triangles


def sides_round(points):
    return list(zip(points, points[1:] + points[:1]))


def area_round(points):
    """Twice the area that a round encloses, above 0 where it lies on the left."""
    return sum(a[0] * b[1] - a[1] * b[0] for a, b in sides_round(points))


def tried_is_ring(points):
    """By the words of the document, of a tuple of points: each two sides, the place of each."""
    if len(points) < 3 or len(set(points)) != len(points) or points[0] != min(points):
        return False
    for one, other in itertools.combinations(sides_round(points), 2):
        if places_in_common(one, other) != set(one) & set(other):
            return False
    return area_round(points) > 0


def from_least(points):
    """A round told from its least point on."""
    at = points.index(min(points))
    return points[at:] + points[:at]


def made_ring(seed, many, reach):
    """A ring of so many points, coordinates from -reach to reach, the same one for the same seed."""
    source = random.Random(seed)
    while True:
        found = {}
        while len(found) < many:
            found[source.randint(-reach, reach), source.randint(-reach, reach)] = True
        points = list(found)
        if on_one_line(points):
            continue
        ring = untangled(points)
        if ring is not None:
            return ring


def untangled(points):
    """A ring of the same points: stretches between sides that meet are turned round; None where that has no end."""
    for step in range(200):
        here = sides_round(points)
        met = [(i, j) for i, j in itertools.combinations(range(len(points)), 2)
               if places_in_common(here[i], here[j]) != set(here[i]) & set(here[j])]
        if not met:
            told = from_least(tuple(points) if area_round(points) > 0 else tuple(points[::-1]))
            return told if tried_is_ring(told) else None
        i, j = met[step % len(met)]
        points = points[:i + 1] + points[i + 1:j + 1][::-1] + points[j + 1:]
    return None


def share(ring, three):
    """Twice the area that a triangle and a ring's inside have in common: the ring in threes from its first point."""
    told = 0
    for b, c in zip(ring[1:], ring[2:]):
        fan = doubled(ring[0], b, c)
        if fan:
            told += (1 if fan > 0 else -1) * common_area(three, (ring[0], b, c))
    return told


@functools.lru_cache(maxsize=None)
def tried_ring_triangles(ring):
    return tuple(three for three in triangles(tuple(sorted(ring))) if share(ring, three) == size(three))


@functools.lru_cache(maxsize=None)
def ring_lays(ring):
    """All lays of a ring, grown from its sides inwards: each open side is given a triangle on its open hand."""
    found = []
    on_left = {}
    for three in tried_ring_triangles(ring):
        for a, b in directed(three):
            on_left.setdefault((a, b), []).append(three)

    def go_on(chosen, still):
        if not still:
            found.append(tuple(sorted(chosen)))
            return
        for three in on_left.get(min(still), []):
            if not any(lie_over(three, other) for other in chosen):
                left = set(still)
                for a, b in directed(three):
                    if (a, b) in left:
                        left.remove((a, b))
                    else:
                        left.add((b, a))
                go_on(chosen + [three], left)

    go_on([], set(sides_round(ring)))
    return tuple(sorted(found))


def directed(three):
    """The sides of a triangle, each such that it lies on the left."""
    a, b, c = three
    return ((a, b), (b, c), (c, a)) if doubled(a, b, c) > 0 else ((a, c), (c, b), (b, a))


@functools.lru_cache(maxsize=None)
def ring_lays_by_choice(ring):
    """All lays by their very definition: each choice of triangles of which no two lie over one another."""
    found = []

    def go_on(chosen, rest, lacking):
        if lacking == 0:
            found.append(tuple(chosen))
        elif sum(map(size, rest)) >= lacking:
            first = rest[0]
            go_on(chosen + [first], [three for three in rest[1:] if not lie_over(first, three)], lacking - size(first))
            go_on(chosen, rest[1:], lacking)

    go_on([], list(tried_ring_triangles(ring)), area_round(ring))
    return tuple(sorted(found))


def all_pairs(many):
    return list(itertools.combinations(range(many), 2))


def weigh_ring(ring, weights, lay):
    """What a lay of a ring weighs: each side once, by the places of its ends."""
    order = all_pairs(len(ring))
    held = {tie for three in lay for tie in sides(three)}
    return sum(weights[order.index(tuple(sorted((ring.index(a), ring.index(b)))))] for a, b in held)


def bowl_ring(many):
    """A ring without inward or flat corners."""
    return tuple((x, x * x) for x in range(many))


def comb(many):
    """A ring with many inward corners: teeth upwards."""
    teeth = tuple((x, 5 if x % 2 else 1) for x in range(many - 3, -1, -1))
    return ((-1, 0), (many - 2, 0)) + teeth


SPOT_RING = ((0, 0), (1, 0), (0, 1))
SQUARE_RING = ((0, 0), (1, 0), (1, 1), (0, 1))
DART = ((0, 0), (4, 0), (1, 1), (0, 4))
FLAT_RING = ((0, 0), (1, 0), (2, 0), (2, 2), (0, 2))
ALL_FLAT = ((0, 0), (1, 0), (2, 0), (3, 0), (2, 1), (1, 2), (0, 3), (0, 2), (0, 1))
RIM_TWELVE = ((0, 0), (1, 0), (2, 0), (3, 0), (3, 1), (3, 2), (3, 3), (2, 3), (1, 3), (0, 3), (0, 2), (0, 1))
HOOK = ((0, 0), (6, 0), (6, 6), (0, 6), (0, 2), (4, 2), (4, 4), (2, 4), (2, 5), (5, 5), (5, 1), (0, 1))
WIDE = ((-1000, -1000), (1000, -1000), (1000, 1000), (0, -999), (-1000, 1000))
SPIKE = ((0, 0), (3, 0), (3, 3), (1, 1), (0, 3))

TOLD_RINGS = (
    SPOT_RING, SQUARE_RING, DART, FLAT_RING, ALL_FLAT, RIM_TWELVE, HOOK, WIDE, SPIKE, comb(5), comb(8), comb(12),
    bowl_ring(5), bowl_ring(7), bowl_ring(9))
MADE_RINGS = tuple(made_ring(seed * 100 + many, many, reach) for seed in range(4) for many, reach in (
    (3, 2), (4, 1), (4, 3), (5, 2), (6, 2), (6, 1000), (7, 2), (8, 2), (8, 4), (9, 1000), (10, 3), (12, 3), (12, 1000)))
RINGS = TOLD_RINGS + MADE_RINGS
