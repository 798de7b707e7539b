"""[3], [26], [27], [28]: menus."""

import itertools
import random
import unittest
from fractions import Fraction

from tests.samples import (
    CORNERS, FIRST_OFF, GRID_FOUR, GRID_THREE, LAST_OFF, MANY, NEEDLE, NINES, OUTER_NINE, ROUND_NINE, SMALL, SPOT,
    SQUARE, TWO_OFF, bowl, deep, no_points, spoiled)
from tests.shapes import do_cross
from tests.trying import all_lays, lie_over, sides
from threelays.lays import least_of, ties_of
from threelays.menus import corners_from, is_menu, no_longer, with_ties, with_triangles, without_ties
from threelays.points import corner, far
from threelays.ties import ties
from threelays.triangles import triangles

FALLING = ((0, 1), (1, 0))
RISING = ((0, 0), (1, 1))
SOME = NINES[:34]


def choices(seed, things, most):
    """Some rising tuples of the things: none, one, a few, all."""
    source = random.Random(seed)
    told = [(), tuple(things)]
    told += [(thing,) for thing in source.sample(things, min(3, len(things)))]
    for many in range(2, min(most, len(things)) + 1):
        told.append(tuple(sorted(source.sample(things, many))))
    return told


def lays_within(field, menu):
    return [lay for lay in all_lays(field) if set(lay) <= set(menu)]


class IsMenuTests(unittest.TestCase):

    def test_right_ones(self):
        for field in SMALL + (GRID_FOUR,):
            told = triangles(field)
            for thing in ((), told, told[:1], told[-1:], told[::2], told[1:], told[:-1]):
                self.assertIs(is_menu(field, thing), True)
        for field in SOME:
            for lay in all_lays(field)[:5]:
                self.assertIs(is_menu(field, lay), True)

    def test_triangles_over_one_another(self):
        self.assertIs(is_menu(SQUARE, triangles(SQUARE)), True)
        self.assertIs(is_menu(SQUARE, triangles(SQUARE)[:2]), True)

    def test_order_and_twice(self):
        told = triangles(SQUARE)
        for order in itertools.permutations(told):
            self.assertIs(is_menu(SQUARE, order), order == told)
        for at in range(4):
            self.assertIs(is_menu(SQUARE, told[:at + 1] + told[at:]), False)

    def test_what_is_no_triangle_of_the_field(self):
        self.assertIs(is_menu(GRID_THREE, (((0, 0), (0, 2), (2, 0)),)), False)
        self.assertIs(is_menu(GRID_THREE, (((0, 0), (0, 1), (1, 0)), ((0, 0), (1, 1), (2, 2)))), False)
        self.assertIs(is_menu(SQUARE, (((0, 0), (0, 1), (2, 0)),)), False)
        self.assertIs(is_menu(SQUARE, (SPOT, ((1, 0), (0, 1), (1, 1)))), False)
        self.assertIs(is_menu(SPOT, SPOT), False)
        self.assertIs(is_menu(SPOT, (SPOT, None)), False)

    def test_spoiled(self):
        told = triangles(SQUARE)
        for thing in spoiled(told):
            self.assertIs(is_menu(SQUARE, thing), thing == told[:-1])

    def test_truths_in_each_place(self):
        for at, axis in itertools.product(range(3), range(2)):
            point = list(SPOT[at])
            point[axis] = point[axis] == 1
            self.assertIs(is_menu(SPOT, (SPOT[:at] + (tuple(point),) + SPOT[at + 1:],)), False)

    def test_any_thing(self):
        things = [deep(tuple, (SPOT,), 16), deep(tuple, SPOT, 17), [SPOT], [], (list(SPOT),), SPOT, (SPOT, SPOT),
                  (SPOT,) * 500, deep(list, (SPOT,), 16), ((),)]
        for thing in no_points() + things:
            self.assertIs(is_menu(SPOT, thing), thing == () and thing.__class__ is tuple)

    def test_by_names(self):
        self.assertIs(is_menu(thing=(SPOT,), field=SPOT), True)


class MenuCase(unittest.TestCase):

    def look(self, field, told, wanted):
        """Told is just that tuple of triangles, and a menu."""
        self.assertIs(told.__class__, tuple)
        self.assertEqual(told, tuple(three for three in triangles(field) if wanted(three)))
        self.assertIs(is_menu(field, told), True)


class WithTiesTests(MenuCase):

    def test_told_ones(self):
        self.assertEqual(with_ties(SQUARE, ()), triangles(SQUARE))
        self.assertEqual(with_ties(SQUARE, (FALLING,)), (SQUARE[:3], SQUARE[1:]))
        self.assertEqual(with_ties(SQUARE, (RISING, FALLING)), ())
        self.assertEqual(with_ties(SQUARE, (((0, 0), (0, 1)),)), triangles(SQUARE))

    def test_sides_cross_none(self):
        for at, field in enumerate(SOME):
            for some in choices(at, ties(field), 4):
                self.look(field, with_ties(field, some), lambda three: not any(
                    do_cross(own, tie) for own in sides(three) for tie in some))

    def test_its_lays_have_them(self):
        for at, field in enumerate(SOME):
            for some in choices(at, ties(field), 4):
                wanted = [lay for lay in all_lays(field) if set(some) <= set(ties_of(lay))]
                self.assertEqual(lays_within(field, with_ties(field, some)), wanted)

    def test_by_names(self):
        self.assertEqual(with_ties(some=(RISING, FALLING), field=SQUARE), ())


class WithoutTiesTests(MenuCase):

    def test_told_ones(self):
        self.assertEqual(without_ties(SQUARE, ()), triangles(SQUARE))
        self.assertEqual(without_ties(SQUARE, (RISING,)), (SQUARE[:3], SQUARE[1:]))
        self.assertEqual(without_ties(SQUARE, (RISING, FALLING)), ())
        self.assertEqual(without_ties(SQUARE, (((0, 0), (0, 1)),)), (
            (SQUARE[0], SQUARE[2], SQUARE[3]), SQUARE[1:]))

    def test_sides_are_none(self):
        for at, field in enumerate(SOME):
            for some in choices(at, ties(field), 4):
                self.look(field, without_ties(field, some), lambda three: set(sides(three)).isdisjoint(some))

    def test_its_lays_have_none_of_them(self):
        for at, field in enumerate(SOME):
            for some in choices(at, ties(field), 4):
                wanted = [lay for lay in all_lays(field) if set(some).isdisjoint(ties_of(lay))]
                self.assertEqual(lays_within(field, without_ties(field, some)), wanted)

    def test_by_names(self):
        self.assertEqual(without_ties(some=(RISING, FALLING), field=SQUARE), ())


class WithTrianglesTests(MenuCase):

    def test_told_ones(self):
        self.assertEqual(with_triangles(SQUARE, ()), triangles(SQUARE))
        self.assertEqual(with_triangles(SQUARE, (SQUARE[:3],)), (SQUARE[:3], SQUARE[1:]))
        self.assertEqual(with_triangles(SQUARE, (SQUARE[:3], SQUARE[1:])), (SQUARE[:3], SQUARE[1:]))
        self.assertEqual(with_triangles(SQUARE, triangles(SQUARE)), ())

    def test_two_over_one_another(self):
        told = with_triangles(SQUARE, triangles(SQUARE)[:2])
        self.assertEqual(told, ())
        field = bowl(5)
        some = (field[:3], (field[0], field[1], field[3]), field[2:])
        self.assertNotIn(field[:3], with_triangles(field, some))
        self.assertNotIn((field[0], field[1], field[3]), with_triangles(field, some))
        self.assertEqual(lays_within(field, with_triangles(field, some)), [])

    def test_over_no_other_one(self):
        for at, field in enumerate(SOME):
            for some in choices(at, triangles(field), 4):
                self.look(field, with_triangles(field, some), lambda three: not any(
                    lie_over(three, other) for other in some if other != three))

    def test_its_lays_have_them(self):
        for at, field in enumerate(SOME):
            for some in choices(at, triangles(field), 4):
                wanted = [lay for lay in all_lays(field) if set(some) <= set(lay)]
                self.assertEqual(lays_within(field, with_triangles(field, some)), wanted)

    def test_all_of_a_lay(self):
        for field in SOME:
            for lay in all_lays(field)[:4]:
                self.assertEqual(lays_within(field, with_triangles(field, lay)), [lay])

    def test_by_names(self):
        self.assertEqual(with_triangles(some=(SPOT,), field=SPOT), (SPOT,))


class NoLongerTests(MenuCase):

    def test_told_ones(self):
        self.assertEqual(no_longer(SQUARE, 2), triangles(SQUARE))
        self.assertEqual(no_longer(SQUARE, 1), ())
        self.assertEqual(no_longer(CORNERS, 7999999), ())
        self.assertEqual(no_longer(CORNERS, 8000000), triangles(CORNERS))

    def test_numbers_below_nought_and_great_ones(self):
        for field in SMALL:
            for most in (0, -1, -1000, -MANY):
                self.assertEqual(no_longer(field, most), ())
            self.assertEqual(no_longer(field, MANY), triangles(field))

    def test_each_length(self):
        for field in SOME:
            lengths = sorted({far(a, b) for a, b in ties(field)})
            for most in lengths[::max(1, len(lengths) // 6)] + [lengths[-1], lengths[-1] - 1]:
                self.look(field, no_longer(field, most), lambda three: all(
                    (b[0] - a[0]) ** 2 + (b[1] - a[1]) ** 2 <= most for a, b in sides(three)))

    def test_its_lays_have_no_longer_ones(self):
        for field in SOME:
            for most in sorted({far(a, b) for a, b in ties(field)})[-4:]:
                wanted = [lay for lay in all_lays(field) if all(far(a, b) <= most for a, b in ties_of(lay))]
                self.assertEqual(lays_within(field, no_longer(field, most)), wanted)

    def test_by_names(self):
        self.assertEqual(no_longer(most=2, field=SPOT), (SPOT,))


class CornersFromTests(MenuCase):

    def test_told_ones(self):
        self.assertEqual(corners_from(SQUARE, (1, 1), False), triangles(SQUARE))
        self.assertEqual(corners_from(SQUARE, (1, 1), True), ())
        self.assertEqual(corners_from(SQUARE, (99, 100), False), ())
        self.assertEqual(corners_from(SQUARE, (101, 100), True), triangles(SQUARE))

    def test_fractions_below_nought_and_nought(self):
        for field in SMALL:
            for fraction in ((0, 1), (-1, 1), (-7, 3), (-MANY, 1), (-1, MANY)):
                for strict in (False, True):
                    self.assertEqual(corners_from(field, fraction, strict), ())

    def test_great_fractions(self):
        for field in SMALL:
            for strict in (False, True):
                self.assertEqual(corners_from(field, (MANY, 1), strict), triangles(field))
                self.assertEqual(corners_from(field, (1, MANY), strict), ())

    def test_each_corner_strictly_and_not(self):
        for field in SOME:
            corners = {three: [Fraction(*corner(*order)) for order in itertools.permutations(three)]
                       for three in triangles(field)}
            greatest = sorted({max(some) for some in corners.values()})
            for fraction in greatest[::max(1, len(greatest) // 6)] + greatest[-1:]:
                told = (fraction.numerator, fraction.denominator)
                self.look(field, corners_from(field, told, False), lambda three: all(
                    one <= fraction for one in corners[three]))
                self.look(field, corners_from(field, told, True), lambda three: all(
                    one < fraction for one in corners[three]))

    def test_its_lays_have_no_lesser_least_corner(self):
        for field in SOME:
            for told in sorted({least_of(lay) for lay in all_lays(field)})[:5]:
                wanted = [lay for lay in all_lays(field) if Fraction(*least_of(lay)) <= Fraction(*told)]
                self.assertEqual(lays_within(field, corners_from(field, told, False)), wanted)
                wanted = [lay for lay in all_lays(field) if Fraction(*least_of(lay)) < Fraction(*told)]
                self.assertEqual(lays_within(field, corners_from(field, told, True)), wanted)

    def test_by_names(self):
        self.assertEqual(corners_from(strict=True, corner=(1, 1), field=SPOT), ())


class EdgeTests(unittest.TestCase):

    def test_fields_with_one_lay(self):
        for field in (SPOT, NEEDLE, LAST_OFF, FIRST_OFF):
            lay = all_lays(field)[0]
            self.assertEqual(with_ties(field, ties(field)), lay)
            self.assertEqual(with_triangles(field, lay), lay)
            for tie in ties(field):
                self.assertEqual(lays_within(field, without_ties(field, (tie,))), [])

    def test_nine_points(self):
        for field in (GRID_THREE, OUTER_NINE, ROUND_NINE, TWO_OFF):
            for menu in (with_ties(field, ()), without_ties(field, ()), with_triangles(field, ()),
                         no_longer(field, MANY), corners_from(field, (MANY, 1), True)):
                self.assertEqual(menu, triangles(field))
