"""[3], [30], [31], [32], [33], [34]: fronts, advances, laying rows."""

import itertools
import random
import unittest

from tests.samples import (
    BOTH_OFF, CIRCLE, CORNERS, FIELDS, FIRST_OFF, FLAT_ROW, GRID_FOUR, GRID_THREE, LAST_OFF, MANY, NINES, OUTERMOST,
    OUTER_NINE, ROUND_NINE, SMALL, SPOT, SQUARE, TWO_COLUMNS, TWO_OFF, bowl, deep, no_points, spoiled)
from tests.shapes import doubled
from tests.trying import all_fronts, all_lays, many_triangles, rows_by_marks, some_lays, tried_advances
from threelays.fields import hull, lower, upper
from threelays.fronts import advances, is_front, laying_row
from threelays.laychecker import lets_lay
from threelays.menus import is_menu
from threelays.triangles import is_triangle, triangles

LOW, HIGH = SQUARE[:3], SQUARE[1:]
SOME = NINES[:27]


def marks_of(front):
    return range(len(front) + 2)


class IsFrontTests(unittest.TestCase):

    def test_told_ones(self):
        for front in (lower(SQUARE), upper(SQUARE), SQUARE, ((0, 0), (1, 1))):
            self.assertIs(is_front(SQUARE, front), True)
        self.assertIs(is_front(GRID_THREE, ((0, 0), (2, 2))), False)
        self.assertIs(is_front(GRID_THREE, ((0, 0), (1, 1), (2, 2))), True)
        self.assertIs(is_front(GRID_THREE, GRID_THREE), True)
        self.assertIs(is_front(GRID_THREE, ((0, 0), (0, 2), (2, 2))), False)
        self.assertIs(is_front(GRID_THREE, ((0, 0), (2, 1), (2, 2))), True)

    def test_lower_and_upper(self):
        for field in FIELDS:
            self.assertIs(is_front(field, lower(field)), True)
            self.assertIs(is_front(field, upper(field)), True)

    def test_each_choice_of_points(self):
        for field in SOME:
            wanted = set(all_fronts(field))
            for many in range(len(field) + 1):
                for some in itertools.combinations(field, many):
                    self.assertIs(is_front(field, some), some in wanted)

    def test_other_orders_and_twice(self):
        for order in itertools.permutations(SQUARE):
            self.assertIs(is_front(SQUARE, order), order == SQUARE)
        for at in range(4):
            self.assertIs(is_front(SQUARE, SQUARE[:at + 1] + SQUARE[at:]), False)

    def test_too_short(self):
        for thing in ((), SQUARE[:1], SQUARE[-1:]):
            self.assertIs(is_front(SQUARE, thing), False)

    def test_points_that_the_field_has_not(self):
        self.assertIs(is_front(CORNERS, ((-1000, -1000), (0, 1), (1000, 1000))), False)
        self.assertIs(is_front(SQUARE, ((-1, 0), (0, 0), (1, 1))), False)
        self.assertIs(is_front(SQUARE, ((0, 0), (1, 1), (2, 2))), False)

    def test_spoiled(self):
        for front in all_fronts(SQUARE):
            for thing in spoiled(front):
                self.assertIs(is_front(SQUARE, thing), False, thing)

    def test_any_thing(self):
        front = lower(SQUARE)
        things = [deep(tuple, front, 17), deep(list, front, 17), list(front), [list(point) for point in front],
                  front * 500, (front,), ((0, 0), (True, True)), ((False, False), (1, 1))]
        for thing in no_points() + things:
            self.assertIs(is_front(SQUARE, thing), False)

    def test_by_names(self):
        self.assertIs(is_front(thing=lower(SPOT), field=SPOT), True)


class AdvancesTests(unittest.TestCase):

    def test_told_ones(self):
        start = ((0, 0), (1, 0), (1, 1))
        self.assertEqual(lower(SQUARE), start)
        up, down = (SQUARE[0], SQUARE[1], SQUARE[3]), (SQUARE[0], SQUARE[2], SQUARE[3])
        told = triangles(SQUARE)
        self.assertEqual(advances(SQUARE, told, start, 0), [(0, LOW, SQUARE), (0, down, ((0, 0), (1, 1)))])
        self.assertEqual(advances(SQUARE, told, start, 1), [(0, down, ((0, 0), (1, 1)))])
        self.assertEqual(advances(SQUARE, told, start, 2), [])
        self.assertEqual(advances(SQUARE, told, SQUARE, 0), [(1, HIGH, upper(SQUARE))])
        self.assertEqual(advances(SQUARE, told, SQUARE, 2), [(1, HIGH, upper(SQUARE))])
        self.assertEqual(advances(SQUARE, told, SQUARE, 3), [])
        self.assertEqual(advances(SQUARE, told, ((0, 0), (1, 1)), 0), [(0, up, upper(SQUARE))])
        self.assertEqual(advances(SQUARE, told, ((0, 0), (1, 1)), 1), [])
        self.assertEqual(advances(SQUARE, told, upper(SQUARE), 0), [])

    def test_by_the_menu_alone(self):
        start = lower(SQUARE)
        self.assertEqual(advances(SQUARE, (), start, 0), [])
        self.assertEqual(advances(SQUARE, (LOW,), start, 0), [(0, LOW, SQUARE)])
        self.assertEqual(advances(SQUARE, (HIGH,), start, 0), [])

    def test_each_front_and_mark(self):
        source = random.Random(31)
        for field in SOME:
            told = triangles(field)
            fronts = all_fronts(field)
            for front in source.sample(fronts, min(40, len(fronts))):
                for menu in (told, told[::2], all_lays(field)[-1]):
                    for mark in marks_of(front):
                        found = advances(field, menu, front, mark)
                        self.assertIs(found.__class__, list)
                        self.assertEqual(found, tried_advances(menu, front, mark))

    def test_great_marks(self):
        for field in SMALL:
            for mark in (100, MANY):
                self.assertEqual(advances(field, triangles(field), lower(field), mark), [])

    def test_what_comes_is_a_front(self):
        for field in SOME:
            for front in all_fronts(field)[:30]:
                for thing in advances(field, triangles(field), front, 0):
                    self.assertIs(thing.__class__, tuple)
                    place, three, came = thing
                    self.assertIs(is_front(field, came), True)
                    self.assertIs(is_triangle(field, three), True)
                    self.assertEqual(front[place], three[0])

    def test_a_new_list_each_time(self):
        first = advances(SQUARE, triangles(SQUARE), lower(SQUARE), 0)
        first.clear()
        first.append("x")
        self.assertEqual(len(advances(SQUARE, triangles(SQUARE), lower(SQUARE), 0)), 2)
        none = advances(SQUARE, (), lower(SQUARE), 0)
        none.append("x")
        self.assertEqual(advances(SQUARE, (), lower(SQUARE), 0), [])

    def test_by_names(self):
        self.assertEqual(advances(mark=0, front=lower(SPOT), menu=(SPOT,), field=SPOT), [(0, SPOT, upper(SPOT))])


class LayingRowTests(unittest.TestCase):

    def test_told_ones(self):
        self.assertEqual(laying_row(SPOT, (SPOT,)), (SPOT,))
        self.assertEqual(laying_row(SQUARE, (LOW, HIGH)), (LOW, HIGH))
        up, down = (SQUARE[0], SQUARE[1], SQUARE[3]), (SQUARE[0], SQUARE[2], SQUARE[3])
        self.assertEqual(laying_row(SQUARE, (up, down)), (down, up))

    def test_the_least_place_always(self):
        for field in SOME:
            for lay in all_lays(field)[:80]:
                row, front = [], lower(field)
                while tried_advances(lay, front, 0):
                    places = [place for place, three, came in tried_advances(lay, front, 0)]
                    self.assertEqual(len(set(places)), len(places))
                    place, three, front = [way for way in tried_advances(lay, front, 0) if way[0] == min(places)][0]
                    row.append(three)
                self.assertEqual(front, upper(field))
                told = laying_row(field, lay)
                self.assertIs(told.__class__, tuple)
                self.assertEqual(told, tuple(row))

    def test_sixteen_points(self):
        for field in FIELDS:
            for lay in some_lays(field):
                row = laying_row(field, lay)
                self.assertEqual(tuple(sorted(row)), lay)
                front, mark = lower(field), 0
                for three in row:
                    ways = [way for way in tried_advances(lay, front, mark) if way[1] == three]
                    self.assertEqual(len(ways), 1)
                    mark, three, front = ways[0]
                self.assertEqual(front, upper(field))

    def test_by_names(self):
        self.assertEqual(laying_row(lay=(SPOT,), field=SPOT), (SPOT,))


class RowsFollowTests(unittest.TestCase):

    def test_by_marks_each_row_is_come_by_once(self):
        for field in SOME:
            rows = rows_by_marks(field, triangles(field))
            self.assertEqual(len(set(rows)), len(rows))
            self.assertEqual(sorted(rows), sorted(laying_row(field, lay) for lay in all_lays(field)))
            self.assertEqual(tuple(sorted(tuple(sorted(row)) for row in rows)), all_lays(field))

    def test_by_any_advances_a_lay(self):
        source = random.Random(33)
        for field in SOME + (GRID_FOUR, CIRCLE, OUTERMOST, FLAT_ROW):
            menu = triangles(field)
            for step in range(4):
                row, front = [], lower(field)
                ways = advances(field, menu, front, 0)
                while ways:
                    place, three, front = source.choice(ways)
                    row.append(three)
                    ways = advances(field, menu, front, 0)
                self.assertEqual(front, upper(field))
                self.assertIs(lets_lay(field, tuple(sorted(row))), True)
                self.assertEqual(len(row), many_triangles(field))

    def test_all_ways_whatever_their_places(self):
        for field in (SPOT, SQUARE, bowl(5), LAST_OFF, made_small()):
            found = set()

            def go_on(row, front):
                if front == upper(field):
                    found.add(tuple(sorted(row)))
                for place, three, came in advances(field, triangles(field), front, 0):
                    go_on(row + [three], came)

            go_on([], lower(field))
            self.assertEqual(tuple(sorted(found)), all_lays(field))


def made_small():
    return ((0, 0), (1, 3), (2, 1), (3, 4), (4, 0))


def above(field, front):
    """The points of a field above a front: not on it, and above between its two points between which they come."""
    told = []
    for point in field:
        if point not in front:
            before = max(other for other in front if other < point)
            behind = min(other for other in front if other > point)
            if doubled(before, point, behind) < 0:
                told.append(point)
    return told


class FrontsFollowTests(unittest.TestCase):

    def test_each_front_but_the_upper_one_has_an_advance(self):
        for field in SOME + (GRID_THREE, OUTER_NINE, TWO_OFF, BOTH_OFF, TWO_COLUMNS):
            menu = triangles(field)
            for front in all_fronts(field):
                ways = advances(field, menu, front, 0)
                self.assertEqual(ways == [], front == upper(field))

    def test_how_many_advances_lead_to_the_upper_one(self):
        source = random.Random(34)
        for field in SOME + (TWO_OFF, BOTH_OFF, TWO_COLUMNS):
            menu = triangles(field)
            for front in source.sample(all_fronts(field), min(20, len(all_fronts(field)))):
                wanted = 2 * len(above(field, front)) + len(front) - len(upper(field))
                steps = 0
                while front != upper(field):
                    place, three, front = source.choice(advances(field, menu, front, 0))
                    steps += 1
                self.assertEqual(steps, wanted)

    def test_from_the_lower_one_as_many_as_a_lay_has_triangles(self):
        for field in NINES:
            self.assertEqual(
                2 * len(above(field, lower(field))) + len(lower(field)) - len(upper(field)), many_triangles(field))
            self.assertEqual(above(field, upper(field)), [])

    def test_fields_on_lines_and_rounds(self):
        self.assertEqual(all_fronts(LAST_OFF), tuple(sorted((lower(LAST_OFF), upper(LAST_OFF)) + tuple(
            LAST_OFF[:at] + LAST_OFF[-1:] for at in range(2, 8)))))
        for field in (LAST_OFF, FIRST_OFF):
            self.assertEqual(len(advances(field, triangles(field), lower(field), 0)), 1)
        self.assertEqual(lower(bowl(9)), bowl(9))
        self.assertEqual(len(advances(bowl(9), triangles(bowl(9)), bowl(9), 0)), 7)
        self.assertEqual(len(advances(bowl(9), triangles(bowl(9)), bowl(9), 4)), 4)
        self.assertIs(is_menu(ROUND_NINE, triangles(ROUND_NINE)), True)
        self.assertEqual(len(hull(ROUND_NINE)), 9)
