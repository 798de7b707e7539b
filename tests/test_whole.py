"""What is promised over the whole program, through several modules at once.

[2], [6], [7], [8], [17], [22], [25], [33], [38], [40], [46], [49], [52], [60], [61], [75], [78], [82]: on fields with
many points on one line, on one circle, whole grids, all but one or two on a line.
"""

import copy
import inspect
import itertools
import random
import unittest

from tests.samples import (
    BOTH_OFF, CIRCLE, CORNERS, FIRST_OFF, FLAT_ROW, GRID_FOUR, GRID_THREE, LADDER, LAST_OFF, LOW_ROW, NEEDLE,
    OUTERMOST, OUTER_NINE, RIM, ROUND_NINE, SPOT, SQUARE, TWO_COLUMNS, TWO_OFF, UPRIGHT_ROW, WHEEL, bowl, made_field)
from threelays import errors
from threelays.boundchecker import lets_bound
from threelays.boundpapers import bound_paper
from threelays.circles import is_empty, is_plain
from threelays.countchecker import lets_count
from threelays.counting import count
from threelays.countpapers import count_paper
from threelays.desk import Desk
from threelays.distances import fewest
from threelays.errors import LayError, NoLay
from threelays.falls import fallen, joined
from threelays.farchecker import lets_far
from threelays.farpapers import far_paper
from threelays.fields import hull, hull_area, is_field, lower, upper
from threelays.fractions import less
from threelays.fronts import advances, is_front, laying_row
from threelays.keeping import Keeper
from threelays.laychecker import lets_lay
from threelays.lays import inner, least_of, lift, opposite, ties_of, weight
from threelays.leasts import least
from threelays.longest import greatest_corner, least_longest
from threelays.menus import with_ties, with_triangles, without_ties
from threelays.nears import near_ties
from threelays.numbering import lay_at, place_of
from threelays.plain import plain_lay
from threelays.plainchecker import lets_plain
from threelays.points import area, side
from threelays.readings import read_points, read_ring, read_ties, read_triangles, read_web
from threelays.ringchecker import lets_ring
from threelays.ringpapers import ring_paper
from threelays.rings import is_ring, ring_count, ring_triangles
from threelays.texts import shown_points, shown_ring, shown_ties, shown_triangles, shown_web
from threelays.tielays import lay_of
from threelays.ties import cross, crossing, ties
from threelays.triangles import over, triangles
from threelays.turns import can_turn, turned, turns
from threelays.webchecker import lets_web
from threelays.webpapers import web_paper
from threelays.webs import web_row

SMALL = (
    SPOT, SQUARE, CORNERS, NEEDLE, bowl(6), LAST_OFF[:5] + LAST_OFF[-1:], TWO_COLUMNS[:6], WHEEL[:6], GRID_THREE[:6],
    tuple(sorted([(x, 0) for x in range(4)] + [(1, 2), (2, -3)])))
NINE = (GRID_THREE, OUTER_NINE, ROUND_NINE, TWO_OFF, BOTH_OFF, LAST_OFF, FIRST_OFF, TWO_COLUMNS, made_field(3, 9, 3))
SIXTEEN = (GRID_FOUR, LADDER, CIRCLE, FLAT_ROW, LOW_ROW, UPRIGHT_ROW, OUTERMOST, WHEEL, RIM)


def in_a_lay(field):
    return 3 * len(field) - 3 - len(hull(field)), 2 * len(field) - 2 - len(hull(field))


def some_lays(field, many):
    """Lays of a field of at most nine points, spread over all of them."""
    menu = triangles(field)
    total = count(field, menu)
    return [lay_at(field, menu, number) for number in sorted({total * step // many for step in range(many)})]


class LayTests(unittest.TestCase):

    def test_how_many_ties_and_triangles(self):
        for field in SMALL + NINE:
            many_ties, many_triangles = in_a_lay(field)
            rim = {tuple(sorted(pair)) for pair in zip(hull(field), hull(field)[1:] + hull(field)[:1])}
            for lay in some_lays(field, 5):
                own = ties_of(lay)
                self.assertIs(lets_lay(field, lay), True)
                self.assertEqual((len(own), len(lay)), (many_ties, many_triangles))
                self.assertFalse(any(cross(one, other) for one, other in itertools.combinations(own, 2)))
                self.assertEqual({point for three in lay for point in three}, set(field))
                self.assertEqual(sum(area(*three) for three in lay), hull_area(field))
                self.assertEqual(lay_of(field, own), lay)
                for tie in own:
                    across = opposite(lay, tie)
                    hands = {side(tie[0], tie[1], point) for point in across}
                    self.assertEqual(len(across), 1 if tie in rim else 2)
                    self.assertEqual(len(hands - {0}), len(across))
                self.assertEqual(set(inner(field, lay)), set(own) - rim)

    def test_ties_that_have_room(self):
        # Where no two cross and they are fewer than a lay has, another one crosses none of them.
        source = random.Random(25)
        for field in SMALL + NINE + SIXTEEN:
            taken = []
            while len(taken) < in_a_lay(field)[0]:
                with self.assertRaises(NoLay):
                    lay_of(field, tuple(sorted(taken)))
                room = [tie for tie in ties(field) if tie not in taken and not set(crossing(field, tie)) & set(taken)]
                self.assertTrue(room)
                taken.append(source.choice(room))
            self.assertIs(lets_lay(field, lay_of(field, tuple(sorted(taken)))), True)

    def test_triangles_over_one_another(self):
        for field in SMALL + NINE:
            for one, other in itertools.combinations(triangles(field), 2):
                sides = itertools.product(itertools.combinations(one, 2), itertools.combinations(other, 2))
                self.assertIs(over(one, other), any(cross(a, b) for a, b in sides))


class CountTests(unittest.TestCase):

    def test_rows_of_triangles(self):
        # From the lower front to the upper one, each advance let by the mark that the one ahead left.
        for field in SMALL + NINE:
            rows = []
            for lay in some_lays(field, 6):
                row = laying_row(field, lay)
                rows.append(row)
                self.assertEqual(tuple(sorted(row)), lay)
                front, mark = lower(field), 0
                for three in row:
                    ways = {way[1]: way for way in advances(field, triangles(field), front, mark)}
                    mark, taken, front = ways[three]
                    self.assertIs(is_front(field, front), True)
                self.assertEqual(front, upper(field))
            self.assertEqual(rows, sorted(set(rows)))

    def test_counts_numbers_and_papers(self):
        for field in SMALL + NINE:
            menu = triangles(field)
            for some in (menu, menu[1:], menu[::2], without_ties(field, ties(field)[3:4])):
                total = count(field, some)
                self.assertEqual(lets_count(field, some, count_paper(field, some)), total)
                for number in {0, total // 3, total - 1} & set(range(total)):
                    lay = lay_at(field, some, number)
                    self.assertTrue(set(lay) <= set(some))
                    self.assertEqual(place_of(field, some, lay), number)
                with self.assertRaises(NoLay):
                    lay_at(field, some, total)

    def test_counts_added(self):
        for field in SMALL + NINE[:5]:
            menu = triangles(field)
            for some in (menu, menu[:-1]):
                total = count(field, some)
                having = [count(field, tuple(three for three in with_ties(field, (tie,)) if three in some))
                          for tie in ties(field)]
                self.assertEqual(sum(having), in_a_lay(field)[0] * total)
                covered = [count(field, tuple(other for other in with_triangles(field, (three,)) if other in some))
                           for three in some]
                self.assertEqual(sum(covered), in_a_lay(field)[1] * total)

    def test_on_a_round(self):
        for many, wanted in enumerate((1, 2, 5, 14, 42, 132, 429), 3):
            for field in (bowl(many), CIRCLE[:many]):
                self.assertEqual(count(field, triangles(field)), wanted)
                self.assertEqual(ring_count(hull(field)), wanted)

    def test_ties_that_part_a_field(self):
        for field in SMALL[4:] + NINE:
            rim = hull(field)
            beside = set(zip(rim, rim[1:] + rim[:1]))
            for a, b in ties(field):
                if a in rim and b in rim and (a, b) not in beside and (b, a) not in beside:
                    product = 1
                    for hand in (1, -1):
                        part = tuple(point for point in field if point in (a, b) or side(a, b, point) == hand)
                        self.assertIs(is_field(part), True)
                        product *= count(part, triangles(part))
                    self.assertEqual(count(field, with_ties(field, ((a, b),))), product)


class WeightTests(unittest.TestCase):

    def test_leasts_and_bounds(self):
        source = random.Random(46)
        for field in SMALL + NINE:
            weights = tuple(source.randint(0, 1000000) for tie in ties(field))
            for menu in (triangles(field), triangles(field)[:-1]):
                paper = bound_paper(field, weights, menu)
                bound = lets_bound(field, weights, menu, paper)
                if count(field, menu):
                    number, lay = least(field, weights, menu)
                    self.assertEqual((number, bound), (weight(field, weights, lay), number))
                    self.assertTrue(set(lay) <= set(menu))
                    for step in range(3):
                        other = lay_at(field, menu, source.randrange(count(field, menu)))
                        self.assertGreaterEqual(weight(field, weights, other), bound)


class TurnTests(unittest.TestCase):

    def test_there_and_back(self):
        for field in SMALL + NINE:
            for lay in some_lays(field, 4):
                for tie in turns(field, lay):
                    other = turned(field, lay, tie)
                    self.assertIs(lets_lay(field, other), True)
                    gone, = set(ties_of(other)) - set(ties_of(lay))
                    self.assertEqual(set(ties_of(lay)) - set(ties_of(other)), {tie})
                    self.assertIs(can_turn(field, other, gone), True)
                    self.assertEqual(turned(field, other, gone), lay)

    def test_the_plain_lay(self):
        for field in SMALL + NINE:
            plain = plain_lay(field, ())
            self.assertIs(lets_plain(field, (), plain), True)
            self.assertIs(is_empty(field, plain), True)
            self.assertTrue(set(near_ties(field)) <= set(ties_of(plain)))
            self.assertEqual(Keeper(field).lay(), plain)
            most = len(ties(field)) - in_a_lay(field)[0]
            for lay in some_lays(field, 6):
                self.assertGreaterEqual(lift(lay), lift(plain))
                self.assertIs(lift(lay) == lift(plain), is_empty(field, lay))
                self.assertIs(less(least_of(lay), least_of(plain)), False)
                down = fallen(field, (), lay)
                self.assertLessEqual(len(down), most)
                self.assertEqual(len(set(down)), len(down))
                last = lay
                for tie in down:
                    self.assertIs(can_turn(field, last, tie) and not is_plain(field, last, tie), True)
                    last = turned(field, last, tie)
                self.assertEqual(last, plain)
                self.assertLessEqual(len(joined(field, lay, some_lays(field, 1)[0])), 2 * most)
            self.assertIs(less(greatest_corner(field)[0], least_of(plain)), False)
            self.assertEqual(greatest_corner(field)[0], least_of(plain))
            self.assertIs(lets_lay(field, least_longest(field)[1]), True)

    def test_walls(self):
        source = random.Random(60)
        for field in SMALL + NINE:
            for lay in some_lays(field, 3):
                walls = tuple(sorted(source.sample(ties_of(lay), min(3, len(ties_of(lay))))))
                plain = plain_lay(field, walls)
                self.assertIs(lets_plain(field, walls, plain), True)
                self.assertLessEqual(lift(plain), lift(lay))
                keeper = Keeper(field)
                for wall in walls[::-1]:
                    keeper.wall(wall)
                self.assertEqual(keeper.lay(), plain)
                self.assertTrue(set(plain) <= set(with_ties(field, walls)))

    def test_fewest_turns(self):
        for field in SMALL:
            lays = some_lays(field, 4)
            for one, other in itertools.product(lays, repeat=2):
                some = fewest(field, one, other)
                last = one
                for tie in some:
                    last = turned(field, last, tie)
                self.assertEqual(last, other)
                paper = far_paper(field, one, other)
                self.assertEqual(lets_far(field, one, other, paper), len(some))
                self.assertLessEqual(len(some), len(joined(field, one, other)))


class RingAndWebTests(unittest.TestCase):

    def test_hulls_are_rings(self):
        for field in SMALL + NINE:
            ring = hull(field)
            self.assertIs(is_ring(ring), True)
            inside = tuple(sorted(ring))
            self.assertEqual(ring_count(ring), count(inside, triangles(inside)))
            self.assertEqual(ring_triangles(ring), triangles(inside))
            self.assertEqual(lets_ring(ring, ring_paper(ring)), ring_count(ring))

    def test_webs(self):
        for field in SMALL:
            row = web_row(field)
            self.assertEqual(lets_web(field, web_paper(field)), row)
            self.assertEqual((len(row) - 1, row[-1]), (in_a_lay(field)[0], count(field, triangles(field))))
            self.assertEqual(sum(row[::2]), sum(row[1::2]))
            self.assertEqual(row[:2], (1, len(ties(field))))
            crossed = sum(len(crossing(field, tie)) for tie in ties(field)) // 2
            self.assertEqual(row[2], len(ties(field)) * (len(ties(field)) - 1) // 2 - crossed)


class KeeperAndDeskTests(unittest.TestCase):

    def test_points_that_come_and_go(self):
        for field in NINE + SIXTEEN:
            first = [three for three in itertools.combinations(field, 3) if side(*three)][0]
            left = [point for point in field if point not in first]
            for order in (left, left[::-1]):
                keeper = Keeper(first)
                for point in order:
                    came = keeper.put(point)[1]
                    self.assertEqual(came, tuple(three for three in keeper.lay() if point in three))
                self.assertEqual((keeper.points(), keeper.lay()), (field, plain_lay(field, ())))
                for point in order:
                    ahead = keeper.lay()
                    went = keeper.take(point)[0]
                    self.assertEqual(went, tuple(three for three in ahead if point in three))
                self.assertEqual(keeper.points(), first)

    def test_a_desk_tells_what_the_functions_tell(self):
        for field in SMALL + NINE:
            desk = Desk()
            self.assertEqual(desk.say("field " + shown_points(field)), "ok")
            wall = inner(field, plain_lay(field, ()))[:1]
            if wall:
                desk.say("wall " + shown_ties(wall))
            menu = with_ties(field, wall)
            self.assertEqual(read_points(desk.say("points")), field)
            self.assertEqual(read_ties(desk.say("walls")), wall)
            self.assertEqual(read_triangles(desk.say("lay")), plain_lay(field, wall))
            self.assertEqual(desk.say("count"), str(count(field, menu)))
            lay = read_triangles(desk.say("at 0"))
            self.assertEqual(place_of(field, menu, lay), 0)
            self.assertEqual(desk.say("ring " + shown_points(hull(field))), str(ring_count(hull(field))))
            if len(field) <= 6:
                self.assertEqual(desk.say("webs"), " ".join(str(number) for number in web_row(field)))

    def test_papers_by_way_of_texts(self):
        for field in SMALL:
            lines = shown_web(web_paper(field))
            self.assertEqual(lets_web(field, read_web(lines)), web_row(field))
        for field in SMALL + NINE:
            lines = shown_ring(ring_paper(hull(field)))
            self.assertEqual(lets_ring(hull(field), read_ring(lines)), ring_count(hull(field)))
            lay = plain_lay(field, ())
            self.assertIs(lets_plain(field, (), read_triangles(shown_triangles(lay))), True)


class ToldThingsTests(unittest.TestCase):

    def told(self, field):
        """Much that is told of a field of at most six points, by all modules."""
        menu = triangles(field)
        lay = lay_at(field, menu, 0)
        plain = plain_lay(field, ())
        weights = tuple(range(len(ties(field))))
        keeper, desk = Keeper(field), Desk()
        desk.say("field " + shown_points(field))
        return [
            hull(field), lower(field), upper(field), ties(field), menu, lay, plain, ties_of(lay), inner(field, lay),
            laying_row(field, lay), advances(field, menu, lower(field), 0), count(field, menu),
            count_paper(field, menu), least(field, weights, menu), bound_paper(field, weights, menu),
            least_longest(field), greatest_corner(field), turns(field, lay), fallen(field, (), lay),
            joined(field, lay, plain), near_ties(field), fewest(field, lay, plain), far_paper(field, lay, plain),
            ring_triangles(hull(field)), ring_paper(hull(field)), web_row(field), web_paper(field), keeper.points(),
            keeper.walls(), keeper.lay(), shown_web(web_paper(field)), shown_ring(ring_paper(hull(field))),
            desk.say("lay"), desk.say("count"), desk.say("webs")]

    def lists_in(self, thing):
        found = [thing] if thing.__class__ is list else []
        if thing.__class__ in (list, tuple):
            for part in thing:
                found += self.lists_in(part)
        return found

    def test_alike_whatever_was_asked_before(self):
        first = [self.told(field) for field in SMALL]
        kept = copy.deepcopy(first)
        for step in range(2):
            self.assertEqual([self.told(field) for field in SMALL[::-1]][::-1], kept)
        self.assertEqual(first, kept)

    def test_what_is_done_to_told_things_changes_nothing(self):
        for field in SMALL:
            first = self.told(field)
            kept = copy.deepcopy(first)
            held = self.lists_in(first)
            self.assertEqual(len({id(one) for one in held}), len(held))
            for one in held[1:]:
                one.append("x")
                one.reverse()
            self.assertEqual(self.told(field), kept)


class RefusalTests(unittest.TestCase):

    def test_each_straight_under_one_base(self):
        found = {name: kind for name, kind in inspect.getmembers(errors, inspect.isclass)}
        wanted = {"NoPaper": ("word", "number"), "NoLay": (), "NoTie": ("word",), "Crossed": ("tie",),
                  "NoPoint": ("word",), "TooMany": ("word",), "NoStep": (), "NoText": ("row", "word"),
                  "NoRow": ("row",)}
        self.assertEqual(set(found), set(wanted) | {"LayError"})
        for name, fields in wanted.items():
            self.assertEqual(found[name].__bases__, (LayError,))
            things = [[name, at] for at in range(len(fields))]
            error = found[name](*things)
            for field, thing in zip(fields, things):
                self.assertIs(getattr(error, field), thing)
