"""[70], [71], [75]: rings, their triangles and counts."""

import itertools
import random
import unittest

from tests.roundtrying import (
    ALL_FLAT, DART, FLAT_RING, HOOK, MADE_RINGS, RIM_TWELVE, RINGS, SPOT_RING, SQUARE_RING, WIDE, area_round, bowl_ring,
    comb, from_least, made_ring, ring_lays, ring_lays_by_choice, sides_round, tried_is_ring, tried_ring_triangles)
from tests.samples import GRID_THREE, MANY, deep, no_points, spoiled
from tests.trying import all_lays, hull_ties, lie_over, sides, size
from threelays.counting import count
from threelays.fields import hull, is_field
from threelays.menus import with_ties
from threelays.rings import is_ring, ring_count, ring_triangles
from threelays.ties import is_tie


def inner_sides(ring):
    """The sides of triangles of a ring that are no SIDES, by their places."""
    rim = {tuple(sorted(pair)) for pair in sides_round(ring)}
    found = {tie for three in ring_triangles(ring) for tie in sides(three)} - rim
    return sorted(tuple(sorted((ring.index(a), ring.index(b)))) for a, b in found)


def parts(ring, i, j):
    """Both rings into which a side cuts a ring."""
    return from_least(ring[i:j + 1]), from_least(ring[:i + 1] + ring[j:])


def pockets(ring):
    """For each hull tie that is no SIDE the ring of the points on the ring's way from its one end to the other."""
    rim = hull(tuple(sorted(ring)))
    told = []
    for a, b in zip(rim, rim[1:] + rim[:1]):
        i, j = ring.index(a), ring.index(b)
        way = ring[i:j + 1] if i < j else ring[i:] + ring[:j + 1]
        if len(way) > 2:
            told.append(from_least(way[::-1]))
    return told


class IsRingTests(unittest.TestCase):

    def test_told_ones(self):
        for ring in RINGS:
            self.assertIs(is_ring(ring), True, ring)

    def test_the_wrong_way_round(self):
        for ring in RINGS:
            self.assertIs(is_ring(ring[:1] + ring[:0:-1]), False, ring)
            self.assertIs(is_ring(ring[::-1]), False, ring)

    def test_not_from_the_least_point_on(self):
        for ring in RINGS:
            for at in range(1, len(ring)):
                self.assertIs(is_ring(ring[at:] + ring[:at]), False, ring)

    def test_sides_that_cross_touch_or_lie_on_one_another(self):
        for points in (
                ((0, 0), (1, 1), (1, 0), (0, 1)), ((0, 0), (1, 0), (0, 1), (1, 1)),
                # A corner on a side; a corner on a corner; sides that lie on one another, wholly and in part.
                ((0, 0), (4, 0), (4, 4), (2, 0), (0, 4)), ((0, 0), (4, 0), (4, 4), (2, 2), (0, 4), (2, 2)),
                ((0, 0), (4, 0), (2, 0), (2, 2)), ((0, 0), (2, 0), (4, 0), (1, 0), (0, 3)),
                ((0, 0), (4, 0), (4, 1), (6, 1), (4, 1), (0, 3)), ((0, 0), (4, 0), (4, 2), (4, 1), (0, 3)),
                ((0, 0), (3, 0), (3, 1), (2, 1), (2, 0), (1, 0), (1, 1), (0, 1)),
                # A side on the line of another one, but with a common end: there and back.
                ((0, 0), (2, 2), (1, 1), (0, 3)), ((0, 0), (0, 3), (0, 1), (-1, 5))):
            self.assertIs(is_ring(points), False, points)
            self.assertIs(tried_is_ring(points), False, points)

    def test_points_on_one_line(self):
        for points in (((0, 0), (1, 0), (2, 0)), ((0, 0), (2, 0), (1, 0)), ((0, 0), (0, 1), (0, 2), (0, 3))):
            self.assertIs(is_ring(points), False)

    def test_a_point_twice(self):
        for ring in RINGS[:20]:
            for at in range(len(ring)):
                self.assertIs(is_ring(ring[:at + 1] + ring[at:]), False)
                self.assertIs(is_ring(ring + ring[at:at + 1]), False)

    def test_too_few_points(self):
        for points in ((), ((0, 0),), ((0, 0), (1, 0))):
            self.assertIs(is_ring(points), False)

    def test_all_rounds_on_a_small_grid(self):
        found = {3: 0, 4: 0, 5: 0}
        for many in (3, 4):
            for points in itertools.product(GRID_THREE, repeat=many):
                told = is_ring(points)
                self.assertIs(told, tried_is_ring(points), points)
                found[many] += told
        for points in itertools.permutations(GRID_THREE[:2] + GRID_THREE[3:], 5):
            if points[0] == min(points):
                told = is_ring(points)
                self.assertIs(told, tried_is_ring(points), points)
                found[5] += told
        self.assertTrue(all(found.values()))

    def test_rounds_by_chance(self):
        source = random.Random(70)
        seen = set()
        for step in range(1500):
            many, reach = source.choice(((5, 2), (6, 2), (6, 9), (7, 2), (8, 3)))
            points = tuple((source.randint(0, reach), source.randint(0, reach)) for at in range(many))
            points = from_least(points)
            told = is_ring(points)
            self.assertIs(told, tried_is_ring(points), points)
            seen.add(told)
        for ring in RINGS:
            for i, j in itertools.combinations(range(1, len(ring)), 2):
                points = list(ring)
                points[i], points[j] = points[j], points[i]
                self.assertIs(is_ring(tuple(points)), tried_is_ring(tuple(points)))
                points = ring[:i] + ring[i:j + 1][::-1] + ring[j + 1:]
                self.assertIs(is_ring(points), tried_is_ring(points))
        self.assertEqual(seen, {True, False})

    def test_coordinates_of_two_hundred_figures(self):
        for ring in (SPOT_RING, SQUARE_RING, DART, FLAT_RING, HOOK):
            for grown in (tuple((x * MANY // 10, y * MANY // 10) for x, y in ring),
                          tuple((x + MANY, y - MANY) for x, y in ring)):
                self.assertIs(is_ring(grown), True)
                self.assertIs(is_ring(grown[:1] + grown[:0:-1]), False)
        # One off the line by one alone, at a great length.
        self.assertIs(is_ring(((0, 0), (MANY, MANY), (MANY + 1, MANY + 2))), True)
        self.assertIs(is_ring(((0, 0), (MANY, MANY), (MANY + 2, MANY + 2))), False)
        self.assertIs(is_ring(((0, 0), (2 * MANY, 1), (MANY, 0), (0, 1))), False)
        self.assertIs(is_ring(((0, 0), (2 * MANY, 1), (MANY, 1), (0, 1))), True)
        self.assertIs(is_ring(((0, 0), (2 * MANY, 1), (MANY, 1), (-1, 1))), False)

    def test_many_points(self):
        many = 1600
        low = tuple((x, x * x) for x in range(many))
        self.assertIs(is_ring(low), True)
        self.assertIs(is_ring(low[:-2] + (low[-1], low[-2])), False)
        zigzag = ((-1, 0), (many, 0)) + tuple((x, 1 + 7 * (x % 2)) for x in range(many - 3, -1, -1))
        self.assertIs(is_ring(zigzag), True)
        self.assertIs(is_ring(zigzag + ((many - 1, 4),)), False)

    def test_things_of_other_kinds(self):
        for thing in no_points() + [
                list(SQUARE_RING), (SQUARE_RING,), SQUARE_RING[0], deep(tuple, SQUARE_RING, 15),
                ((0, 0), (1, 0), [0, 1]), ((0, 0), (1, 0), None), ((0, 0), (1, 0), (0, 1, 0)), ((0, 0), (1, 0), (0,)),
                ((0, 0), (1, 0), (0, True)), ((False, 0), (1, 0), (0, 1)), ((0, 0), (True, 0), (0, 1)), ("a", "b", "c"),
                ((0, 0), (1, 0), "01")]:
            self.assertIs(is_ring(thing), False, thing)

    def test_spoiled(self):
        # A point less or a nought behind is no spoiling by kind, so these are held against what is tried.
        for ring in (SPOT_RING, SQUARE_RING, DART):
            for thing in spoiled(ring):
                self.assertIs(is_ring(thing), thing == ring[:-1] and tried_is_ring(thing))

    def test_by_name(self):
        self.assertIs(is_ring(thing=SPOT_RING), True)


class RingTriangleTests(unittest.TestCase):

    def test_told_ones(self):
        self.assertEqual(ring_triangles(SPOT_RING), (((0, 0), (0, 1), (1, 0)),))
        self.assertEqual(ring_triangles(DART), (((0, 0), (0, 4), (1, 1)), ((0, 0), (1, 1), (4, 0))))
        self.assertEqual(len(ring_triangles(SQUARE_RING)), 4)
        self.assertEqual(len(ring_triangles(bowl_ring(12))), 220)

    def test_against_trying(self):
        for ring in RINGS + (bowl_ring(12),):
            told = ring_triangles(ring)
            self.assertIs(told.__class__, tuple)
            self.assertEqual(told, tried_ring_triangles(ring))

    def test_a_field_and_its_ties(self):
        for ring in RINGS:
            field = tuple(sorted(ring))
            self.assertIs(is_field(field), True)
            for pair in sides_round(ring):
                self.assertIs(is_tie(field, tuple(sorted(pair))), True)

    def test_moved_to_the_bounds(self):
        for ring in (DART, FLAT_RING, HOOK):
            moved = tuple((x + 990, y - 1000) for x, y in ring)
            wanted = tuple(tuple((x + 990, y - 1000) for x, y in three) for three in ring_triangles(ring))
            self.assertEqual(ring_triangles(moved), wanted)

    def test_by_name(self):
        self.assertEqual(ring_triangles(ring=SPOT_RING), (((0, 0), (0, 1), (1, 0)),))


class RingCountTests(unittest.TestCase):

    def test_without_inward_or_flat_corners(self):
        for many, wanted in enumerate((1, 2, 5, 14, 42, 132, 429, 1430, 4862, 16796), 3):
            self.assertEqual(ring_count(bowl_ring(many)), wanted)

    def test_told_ones(self):
        for ring, wanted in ((SPOT_RING, 1), (SQUARE_RING, 2), (DART, 1), (FLAT_RING, 3), (WIDE, 1)):
            self.assertEqual(ring_count(ring), wanted)

    def test_against_trying(self):
        for ring in RINGS + (bowl_ring(10),):
            told = ring_count(ring)
            self.assertIs(told.__class__, int)
            self.assertEqual(told, len(ring_lays(ring)))
            self.assertGreater(told, 0)

    def test_against_all_choices(self):
        for ring in RINGS:
            if len(tried_ring_triangles(ring)) < 24:
                self.assertEqual(ring_lays(ring), ring_lays_by_choice(ring))

    def test_lays_have_two_less_triangles_than_the_ring_points(self):
        for ring in RINGS:
            for lay in ring_lays(ring)[:30]:
                self.assertEqual(len(lay), len(ring) - 2)
                self.assertEqual(sum(map(size, lay)), area_round(ring))
                self.assertFalse(any(lie_over(one, other) for one, other in itertools.combinations(lay, 2)))
                for pair in sides_round(ring):
                    self.assertEqual(sum(tuple(sorted(pair)) in sides(three) for three in lay), 1)

    def test_somewhat_beyond_twelve(self):
        self.assertEqual(ring_count(bowl_ring(13)), 58786)
        self.assertEqual(ring_count(comb(14)), len(ring_lays(comb(14))))

    def test_by_name(self):
        self.assertEqual(ring_count(ring=SQUARE_RING), 2)


class SumTests(unittest.TestCase):

    def test_a_side_cuts_a_ring_into_two(self):
        for ring in RINGS + (bowl_ring(8),):
            total = 0
            for i, j in inner_sides(ring):
                one, other = parts(ring, i, j)
                self.assertIs(is_ring(one) and is_ring(other), True)
                product = ring_count(one) * ring_count(other)
                total += product
                if len(ring) < 10:
                    tie = tuple(sorted((ring[i], ring[j])))
                    having = [lay for lay in ring_lays(ring) if any(tie in sides(three) for three in lay)]
                    self.assertEqual(product, len(having))
            self.assertEqual(total, (len(ring) - 3) * ring_count(ring))

    def test_pockets(self):
        seen = set()
        for ring in RINGS + tuple(made_ring(seed, 9, 2) for seed in range(3)) + (bowl_ring(6), comb(7), comb(9)):
            if len(ring) <= 9:
                field = tuple(sorted(ring))
                own = tuple(sorted(tuple(sorted(pair)) for pair in sides_round(ring)))
                found = pockets(ring)
                seen.add(len(found))
                product = ring_count(ring)
                for pocket in found:
                    self.assertIs(is_ring(pocket), True)
                    product *= ring_count(pocket)
                self.assertEqual(count(field, with_ties(field, own)), product)
                having = [lay for lay in all_lays(field) if set(own) <= {tie for three in lay for tie in sides(three)}]
                self.assertEqual(len(having), product)
                self.assertEqual(len(found), len(hull_ties(field) - set(own)))
        self.assertTrue({0, 1, 2} <= seen)

    def test_rings_of_all_kinds_are_looked_at(self):
        self.assertEqual({len(ring) for ring in RINGS}, set(range(3, 13)) - {11})
        self.assertEqual({len(ring) for ring in MADE_RINGS}, {3, 4, 5, 6, 7, 8, 9, 10, 12})
        self.assertEqual(ring_count(made_ring(11, 11, 3)), len(ring_lays(made_ring(11, 11, 3))))
        self.assertEqual(len(ring_triangles(ALL_FLAT)), len(tried_ring_triangles(ALL_FLAT)))
        self.assertEqual(ring_count(RIM_TWELVE), len(ring_lays(RIM_TWELVE)))
