"""[41], [42], [49]: lays by their numbers, and back."""

import random
import unittest

from tests.samples import (
    BOTH_OFF, CIRCLE, CORNERS, FIRST_OFF, GRID_THREE, LAST_OFF, MANY, NINES, OUTER_EIGHT, OUTER_NINE, ROUND_NINE, SPOT,
    SQUARE, TWO_COLUMNS, TWO_OFF, bowl)
from tests.trying import all_lays, lays_in_order, lays_of_menu, many_menus, rows_by_marks, tried_row
from threelays.counting import count
from threelays.errors import LayError, NoLay
from threelays.fronts import laying_row
from threelays.laychecker import lets_lay
from threelays.menus import no_longer, with_ties, with_triangles
from threelays.numbering import lay_at, place_of
from threelays.ties import ties
from threelays.triangles import triangles

LOW, HIGH = SQUARE[:3], SQUARE[1:]
UP, DOWN = (SQUARE[0], SQUARE[1], SQUARE[3]), (SQUARE[0], SQUARE[2], SQUARE[3])
SOME = NINES[:40]


class LayAtTests(unittest.TestCase):

    def test_told_ones(self):
        self.assertEqual(lay_at(SPOT, (SPOT,), 0), (SPOT,))
        self.assertEqual(lay_at(SQUARE, triangles(SQUARE), 0), (LOW, HIGH))
        self.assertEqual(lay_at(SQUARE, triangles(SQUARE), 1), (UP, DOWN))
        self.assertEqual(lay_at(SQUARE, (UP, DOWN), 0), (UP, DOWN))

    def test_all_numbers(self):
        for at, field in enumerate(SOME):
            for menu in many_menus(at, field)[::2]:
                wanted = lays_of_menu(lays_in_order(field), menu)
                numbers = range(len(wanted)) if len(wanted) < 80 else list(range(30)) + [len(wanted) - 1]
                for number in numbers:
                    self.assertEqual(lay_at(field, menu, number), wanted[number])

    def test_the_first_and_the_last(self):
        for at, field in enumerate(NINES):
            for menu in many_menus(at, field):
                wanted = lays_of_menu(lays_in_order(field), menu)
                if wanted:
                    self.assertEqual(lay_at(field, menu, 0), wanted[0])
                    self.assertEqual(lay_at(field, menu, len(wanted) - 1), wanted[-1])

    def test_numbers_that_no_lay_has(self):
        for at, field in enumerate(SOME):
            for menu in many_menus(at, field)[:4]:
                many = len(lays_of_menu(all_lays(field), menu))
                for number in (-1, -2, -many, -many - 1, many, many + 1, MANY, -MANY, 10 * MANY - 1, 1 - 10 * MANY):
                    if not 0 <= number < many:
                        with self.assertRaises(NoLay):
                            lay_at(field, menu, number)

    def test_menus_without_lays(self):
        for field in SOME:
            for menu in ((), triangles(field)[:1] if len(field) > 3 else (), no_longer(field, 0)):
                for number in (0, 1, -1, MANY):
                    with self.assertRaises(NoLay):
                        lay_at(field, menu, number)

    def test_the_error(self):
        with self.assertRaises(LayError) as caught:
            lay_at(SPOT, (SPOT,), 1)
        self.assertIs(caught.exception.__class__, NoLay)
        self.assertEqual(vars(caught.exception), {})

    def test_told_lays_are_lays(self):
        for field in (GRID_THREE, OUTER_NINE, TWO_OFF, BOTH_OFF, ROUND_NINE, OUTER_EIGHT, LAST_OFF, FIRST_OFF):
            for number in range(0, count(field, triangles(field)), 17):
                self.assertIs(lets_lay(field, lay_at(field, triangles(field), number)), True)

    def test_by_names(self):
        self.assertEqual(lay_at(number=1, menu=triangles(SQUARE), field=SQUARE), (UP, DOWN))


class OrderTests(unittest.TestCase):

    def test_by_laying_rows(self):
        for field in (GRID_THREE, TWO_COLUMNS, TWO_OFF, BOTH_OFF, OUTER_EIGHT, bowl(6), CORNERS):
            menu = triangles(field)
            lays = [lay_at(field, menu, number) for number in range(count(field, menu))]
            rows = [laying_row(field, lay) for lay in lays]
            self.assertEqual(rows, sorted(rows_by_marks(field, menu)))
            self.assertEqual(tuple(sorted(lays)), all_lays(field))

    def test_not_as_the_lays_themselves(self):
        found = [field for field in SOME if lays_in_order(field) != all_lays(field)]
        self.assertGreater(len(found), 5)
        for field in sorted(found, key=lambda field: len(all_lays(field)))[:8]:
            menu = triangles(field)
            lays = [lay_at(field, menu, number) for number in range(count(field, menu))]
            self.assertNotEqual(lays, sorted(lays))
            self.assertEqual(lays, list(lays_in_order(field)))


class PlaceOfTests(unittest.TestCase):

    def test_told_ones(self):
        self.assertEqual(place_of(SPOT, (SPOT,), (SPOT,)), 0)
        self.assertEqual(place_of(SQUARE, triangles(SQUARE), (LOW, HIGH)), 0)
        self.assertEqual(place_of(SQUARE, triangles(SQUARE), (UP, DOWN)), 1)
        self.assertEqual(place_of(SQUARE, (UP, DOWN), (UP, DOWN)), 0)

    def test_how_many_have_a_lesser_row(self):
        for at, field in enumerate(SOME):
            for menu in many_menus(at, field)[::3]:
                rows = [tried_row(field, lay) for lay in lays_of_menu(all_lays(field), menu)]
                for row in rows[:40] + rows[-2:]:
                    told = place_of(field, menu, tuple(sorted(row)))
                    self.assertIs(told.__class__, int)
                    self.assertEqual(told, sum(other < row for other in rows))

    def test_each_lay_of_small_menus_and_back(self):
        for field in (SPOT, SQUARE, GRID_THREE, TWO_COLUMNS, bowl(6), CORNERS):
            for menu in (triangles(field), with_ties(field, ties(field)[-1:]), all_lays(field)[0]):
                for number, lay in enumerate(lays_of_menu(lays_in_order(field), menu)):
                    self.assertEqual(place_of(field, menu, lay), number)
                    self.assertEqual(lay_at(field, menu, place_of(field, menu, lay)), lay)
                    self.assertEqual(place_of(field, menu, lay_at(field, menu, number)), number)

    def test_lays_that_the_menu_has_not(self):
        for at, field in enumerate(SOME):
            for menu in many_menus(at, field):
                held = set(menu)
                for lay in [lay for lay in all_lays(field) if not held.issuperset(lay)][:6]:
                    with self.assertRaises(NoLay):
                        place_of(field, menu, lay)
        for lay in all_lays(GRID_THREE)[:9]:
            for at in range(len(lay)):
                with self.assertRaises(NoLay):
                    place_of(GRID_THREE, tuple(three for three in triangles(GRID_THREE) if three != lay[at]), lay)
        with self.assertRaises(NoLay) as caught:
            place_of(SPOT, (), (SPOT,))
        self.assertIs(caught.exception.__class__, NoLay)

    def test_somewhat_beyond_nine_points(self):
        field = CIRCLE[:10]
        menu = triangles(field)
        for number in (0, 1, 700, 1429):
            self.assertEqual(place_of(field, menu, lay_at(field, menu, number)), number)
        with self.assertRaises(NoLay):
            lay_at(field, menu, 1430)

    def test_by_names(self):
        self.assertEqual(place_of(lay=(UP, DOWN), menu=triangles(SQUARE), field=SQUARE), 1)


class NumbersFollowTests(unittest.TestCase):

    def test_all_on_the_hull_no_three_on_one_line(self):
        for many, wanted in {3: 1, 4: 2, 5: 5, 6: 14, 7: 42, 8: 132, 9: 429}.items():
            for field in (bowl(many), CIRCLE[:many]):
                menu = triangles(field)
                self.assertEqual(place_of(field, menu, lay_at(field, menu, wanted - 1)), wanted - 1)
                with self.assertRaises(NoLay):
                    lay_at(field, menu, wanted)

    def test_lays_that_have_told_triangles(self):
        source = random.Random(49)
        for field in SOME:
            lay = source.choice(all_lays(field))
            some = tuple(sorted(source.sample(lay, min(2, len(lay)))))
            menu = with_triangles(field, some)
            having = [other for other in lays_in_order(field) if set(some) <= set(other)]
            for number, other in list(enumerate(having))[:20]:
                self.assertEqual(lay_at(field, menu, number), other)
                self.assertEqual(place_of(field, menu, other), number)
            with self.assertRaises(NoLay):
                lay_at(field, menu, len(having))
