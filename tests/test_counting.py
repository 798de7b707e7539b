"""[6], [35], [40], [49]: counts of menus, and what follows for them."""

import random
import unittest

from tests.samples import (
    BOTH_OFF, CIRCLE, CORNERS, FIRST_OFF, GRID_THREE, LAST_OFF, MANY, NEEDLE, NINES, OUTER_EIGHT, OUTER_NINE,
    ROUND_NINE, SMALL, SPOT, SQUARE, TWO_COLUMNS, TWO_OFF, bowl, made_field)
from tests.shapes import doubled
from tests.trying import all_lays, hull_ties, lays_by_choice, lie_over, many_ties, many_triangles, rows_by_marks, sides
from threelays.counting import count
from threelays.fields import hull
from threelays.menus import corners_from, no_longer, with_ties, with_triangles, without_ties
from threelays.ties import ties
from threelays.triangles import triangles

SOME = NINES[:34]
ROUNDS = {3: 1, 4: 2, 5: 5, 6: 14, 7: 42, 8: 132, 9: 429}


def how_many(field, menu):
    """The lays of a menu, told off among all lays found by trying."""
    held = set(menu)
    return sum(held.issuperset(lay) for lay in all_lays(field))


def menus_of(seed, field):
    """Menus of a field: all triangles, none, some by chance, those of two lays, with a tie, without one."""
    source = random.Random(seed)
    told = triangles(field)
    lays = all_lays(field)
    menus = [told, (), told[1:], told[:-1], lays[0], lays[-1][1:], tuple(sorted(set(lays[0] + lays[-1])))]
    for part in (2, 4, 8):
        left_out = set(source.sample(told, len(told) // part))
        menus.append(tuple(three for three in told if three not in left_out))
    tie = source.choice(ties(field))
    return menus + [with_ties(field, (tie,)), without_ties(field, (tie,))]


def both(one, other):
    return tuple(three for three in one if three in other)


class CountTests(unittest.TestCase):

    def test_told_ones(self):
        self.assertEqual(count(SPOT, (SPOT,)), 1)
        self.assertEqual(count(SQUARE, triangles(SQUARE)), 2)
        self.assertEqual(count(SQUARE, triangles(SQUARE)[1:]), 1)
        self.assertEqual(count(CORNERS, triangles(CORNERS)), 2)
        self.assertEqual(count(GRID_THREE, triangles(GRID_THREE)), 64)
        self.assertEqual(count(OUTER_NINE, triangles(OUTER_NINE)), 64)
        # Two rows of four: each way to mix three steps above and three below.
        self.assertEqual(count(TWO_COLUMNS, triangles(TWO_COLUMNS)), 20)
        for field in (NEEDLE, LAST_OFF, FIRST_OFF):
            self.assertEqual(count(field, triangles(field)), 1)

    def test_menus_without_triangles(self):
        for field in NINES:
            self.assertEqual(count(field, ()), 0)

    def test_against_all_choices_by_trying(self):
        for field in NINES:
            if len(field) <= 6:
                self.assertEqual(count(field, triangles(field)), len(lays_by_choice(field)))

    def test_against_all_lays_by_trying(self):
        for field in NINES:
            told = count(field, triangles(field))
            self.assertIs(told.__class__, int)
            self.assertEqual(told, len(all_lays(field)))

    def test_menus(self):
        for at, field in enumerate(NINES):
            for menu in menus_of(at, field):
                self.assertEqual(count(field, menu), how_many(field, menu))

    def test_menus_of_one_lay(self):
        for field in SOME:
            for lay in all_lays(field)[:8]:
                self.assertEqual(count(field, lay), 1)
                for at in range(len(lay)):
                    self.assertEqual(count(field, lay[:at] + lay[at + 1:]), 0)

    def test_told_menus(self):
        for field in (GRID_THREE, TWO_OFF, BOTH_OFF, OUTER_EIGHT, ROUND_NINE):
            told = [no_longer(field, most) for most in (-1, 0, 2, 5, 8, 50, 1000000, MANY)]
            told += [corners_from(field, one, strict) for one in ((1, 1), (2, 1), (3, 1)) for strict in (True, False)]
            for menu in told:
                self.assertEqual(count(field, menu), how_many(field, menu))

    def test_like_the_ways_by_marks(self):
        for field in SOME[:20]:
            self.assertEqual(count(field, triangles(field)), len(rows_by_marks(field, triangles(field))))

    def test_somewhat_beyond_nine_points(self):
        self.assertEqual(count(bowl(10), triangles(bowl(10))), 1430)
        self.assertEqual(count(CIRCLE[:11], triangles(CIRCLE[:11])), 4862)

    def test_mirrored_fields(self):
        ways = (lambda p: (p[1], p[0]), lambda p: (0 - p[0], p[1]), lambda p: (p[0], 0 - p[1]),
                lambda p: (p[0] + p[1], p[1]))
        for field in SMALL + (ROUND_NINE, TWO_OFF, BOTH_OFF, made_field(49, 9, 30)):
            for way in ways:
                made = tuple(sorted(way(point) for point in field))
                self.assertEqual(count(made, triangles(made)), count(field, triangles(field)))

    def test_by_names(self):
        self.assertEqual(count(menu=(SPOT,), field=SPOT), 1)


class AddedTests(unittest.TestCase):

    def test_by_ties(self):
        for at, field in enumerate(SOME):
            for menu in menus_of(at, field)[:9:4]:
                total = sum(count(field, both(menu, with_ties(field, (tie,)))) for tie in ties(field))
                self.assertEqual(total, many_ties(field) * count(field, menu))

    def test_by_triangles(self):
        for at, field in enumerate(SOME):
            for menu in menus_of(at, field)[:9:3]:
                total = sum(count(field, both(menu, with_triangles(field, (three,)))) for three in menu)
                self.assertEqual(total, many_triangles(field) * count(field, menu))

    def test_on_either_hand_of_a_tie(self):
        for at, field in enumerate(SOME[:24]):
            rim = hull_ties(field)
            for menu in menus_of(at, field)[:9:4]:
                for tie in ties(field)[::3]:
                    having = count(field, both(menu, with_ties(field, (tie,))))
                    for hand in (1, -1):
                        beside = [three for three in menu if tie in sides(three) and any(
                            doubled(*tie, point) * hand > 0 for point in three)]
                        total = sum(count(field, both(menu, with_triangles(field, (three,)))) for three in beside)
                        if any(doubled(*tie, point) * hand > 0 for point in field):
                            self.assertEqual(total, having)
                    if tie in rim:
                        self.assertEqual(having, count(field, menu))


class RoundTests(unittest.TestCase):

    def test_all_on_the_hull_no_three_on_one_line(self):
        for many, wanted in ROUNDS.items():
            for field in (bowl(many), CIRCLE[:many], CIRCLE[-many:], tuple((x, -x * x) for x in range(many)),
                          tuple((y * y, y) for y in range(many)),
                          tuple(sorted((3 * x - x * x, x) for x in range(many)))):
                self.assertEqual(len(hull(field)), many)
                self.assertEqual(count(field, triangles(field)), wanted)

    def test_at_the_outmost(self):
        field = tuple(sorted(((-1000, -999), (-1000, 999), (-999, -1000), (-999, 1000), (999, -1000), (999, 1000),
                              (1000, -999), (1000, 999))))
        self.assertEqual(count(field, triangles(field)), 132)


class CutTests(unittest.TestCase):

    def test_a_tie_between_hull_points_cuts_the_field(self):
        for field in SOME + (bowl(7), ROUND_NINE):
            rim, corners = hull_ties(field), set(hull(field))
            for tie in ties(field):
                if tie not in rim and set(tie) <= corners:
                    left = tuple(point for point in field if point in tie or doubled(*tie, point) > 0)
                    right = tuple(point for point in field if point in tie or doubled(*tie, point) < 0)
                    wanted = count(left, triangles(left)) * count(right, triangles(right))
                    self.assertEqual(count(field, with_ties(field, (tie,))), wanted)


class ToldTrianglesTests(unittest.TestCase):

    def test_of_these_and_all_that_lie_over_none_of_them(self):
        source = random.Random(49)
        for field in SOME:
            for lay in source.sample(all_lays(field), min(4, len(all_lays(field)))):
                some = tuple(sorted(source.sample(lay, source.randint(1, len(lay)))))
                menu = tuple(three for three in triangles(field) if three in some or not any(
                    lie_over(three, other) for other in some))
                self.assertEqual(with_triangles(field, some), menu)
                wanted = sum(set(some) <= set(other) for other in all_lays(field))
                self.assertEqual(count(field, menu), wanted)
