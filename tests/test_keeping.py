"""[79], [80], [81], [82]: a keeper."""

import copy
import itertools
import random
import unittest

from tests.samples import (
    CIRCLE, CORNERS, FIELDS, FLAT_ROW, GRID_FOUR, GRID_THREE, LADDER, LAST_OFF, LOW_ROW, MANY, OUTERMOST, SIXTEEN, SPOT,
    SQUARE, TWO_OFF, WHEEL, deep, made_field, no_points, on_one_line)
from tests.shapes import between, do_cross
from tests.trying import plain_lays, sides, ties_in
from threelays.errors import Crossed, LayError, NoPoint, NoStep, NoTie, TooMany
from threelays.keeping import Keeper
from threelays.plain import plain_lay
from threelays.plainchecker import lets_plain
from threelays.ties import ties

RISING, FALLING = ((0, 0), (1, 1)), ((0, 1), (1, 0))
RIGHT_RIM, UPPER_RIM = ((1, 0), (1, 1)), ((0, 1), (1, 1))
LOW, HIGH = SQUARE[:3], SQUARE[1:]
UP, DOWN = (SQUARE[0], SQUARE[1], SQUARE[3]), (SQUARE[0], SQUARE[2], SQUARE[3])
DEEDS = ("put", "take", "wall", "unwall")


def state(keeper):
    return keeper.points(), keeper.walls(), keeper.lay()


def refused(keeper, deed, *things):
    """The class and the fields with which a deed is refused; what it told where it is done."""
    try:
        return getattr(keeper, deed)(*things)
    except LayError as error:
        return error.__class__, tuple(vars(error).values())


def is_plain_point(thing):
    return thing.__class__ is tuple and len(thing) == 2 and all(part.__class__ is int for part in thing)


def is_plain_tie(field, thing):
    if thing.__class__ is not tuple or len(thing) != 2 or not all(is_plain_point(point) for point in thing):
        return False
    return set(thing) <= set(field) and thing[0] < thing[1] and between(*thing).isdisjoint(field)


def wanted_put(field, walls, thing):
    if not is_plain_point(thing):
        return NoPoint, ("shape",)
    if not all(-1000 <= part <= 1000 for part in thing):
        return NoPoint, ("far",)
    if thing in field:
        return NoPoint, ("there",)
    if any(thing in between(*wall) for wall in walls):
        return NoPoint, ("wall",)
    if len(field) == 16:
        return TooMany, ("points",)
    return tuple(sorted(field + (thing,))), walls


def wanted_take(field, walls, thing):
    if not is_plain_point(thing) or thing not in field:
        return NoPoint, ("lacks",)
    if any(thing in wall for wall in walls):
        return NoPoint, ("wall",)
    rest = tuple(point for point in field if point != thing)
    if len(rest) < 3 or on_one_line(rest):
        return NoPoint, ("line",)
    return rest, walls


def wanted_wall(field, walls, thing):
    if not is_plain_tie(field, thing):
        return NoTie, ("shape",)
    if thing in walls:
        return NoTie, ("there",)
    crossed = [wall for wall in walls if do_cross(wall, thing)]
    if crossed:
        return Crossed, (min(crossed),)
    return field, tuple(sorted(walls + (thing,)))


def wanted_unwall(field, walls, thing):
    if not is_plain_tie(field, thing) or thing not in walls:
        return NoTie, ("lacks",)
    return field, tuple(wall for wall in walls if wall != thing)


WANTED = {"put": wanted_put, "take": wanted_take, "wall": wanted_wall, "unwall": wanted_unwall}


def has_side_across(three, tie):
    return any(do_cross(own, tie) for own in sides(three))


def just_these(deed, thing, ahead, behind):
    """By [82]: the triangles that went, or that came, seen from the lays alone."""
    if deed == "put":
        return None, tuple(three for three in behind if thing in three)
    if deed == "take":
        return tuple(three for three in ahead if thing in three), None
    if deed == "wall":
        return tuple(three for three in ahead if has_side_across(three, thing)), None
    return None, tuple(three for three in behind if has_side_across(three, thing))


class KeeperCase(unittest.TestCase):

    def do(self, keeper, deed, thing):
        """One deed, held against what the document tells; whether it was done."""
        field, walls, ahead = state(keeper)
        wanted = WANTED[deed](field, walls, thing)
        told = refused(keeper, deed, thing)
        if wanted[0].__class__ is type:
            self.assertEqual(told, wanted, (deed, thing))
            self.assertEqual(state(keeper), (field, walls, ahead))
            return False
        self.assertEqual(state(keeper)[:2], wanted, (deed, thing))
        behind = keeper.lay()
        self.look(told, ahead, behind)
        went, came = just_these(deed, thing, ahead, behind)
        self.assertEqual(told, (told[0] if went is None else went, told[1] if came is None else came), (deed, thing))
        return True

    def look(self, told, ahead, behind):
        went, came = told
        self.assertIs(told.__class__, tuple)
        self.assertEqual(went, tuple(sorted(set(ahead) - set(behind))))
        self.assertEqual(came, tuple(sorted(set(behind) - set(ahead))))

    def look_at_lay(self, keeper):
        points, walls, lay = state(keeper)
        self.assertIs(lets_plain(points, walls, lay), True)
        self.assertEqual(lay, plain_lay(points, walls))


class MadeTests(KeeperCase):

    def test_told(self):
        keeper = Keeper(SQUARE)
        self.assertEqual(state(keeper), (SQUARE, (), (UP, DOWN)))
        self.assertEqual(state(Keeper(field=SPOT)), (SPOT, (), (SPOT,)))

    def test_fields(self):
        for field in FIELDS:
            keeper = Keeper(field)
            self.assertEqual(keeper.points(), field)
            self.assertEqual(keeper.walls(), ())
            self.look_at_lay(keeper)
        for field in FIELDS[20:50]:
            if len(field) < 8:
                self.assertEqual([Keeper(field).lay()], plain_lays(field, ()))

    def test_three_sixteen_and_seventeen(self):
        self.assertEqual(len(Keeper(SPOT).lay()), 1)
        for field in SIXTEEN:
            self.assertEqual(len(Keeper(field).points()), 16)
            for more in ((-7, 9), (7, 7), (50, 51)):
                if more not in field:
                    with self.assertRaises(TooMany) as caught:
                        Keeper(tuple(sorted(field + (more,))))
                    self.assertEqual(vars(caught.exception), {"word": "points"})
        with self.assertRaises(TooMany):
            Keeper(tuple((x, x * x) for x in range(40)))

    def test_two_keepers_of_one_field(self):
        one, other = Keeper(SQUARE), Keeper(SQUARE)
        one.wall(FALLING)
        one.put((5, 5))
        self.assertEqual(state(other), (SQUARE, (), (UP, DOWN)))
        with self.assertRaises(NoStep):
            other.back()
        other.put((3, 1))
        one.back()
        self.assertEqual(one.points(), SQUARE)
        self.assertEqual(other.points(), SQUARE + ((3, 1),))

    def test_what_is_told_stays(self):
        keeper = Keeper(GRID_THREE)
        first = state(keeper)
        kept = copy.deepcopy(first)
        told = keeper.put((5, 1))
        kept_told = copy.deepcopy(told)
        keeper.wall(((0, 0), (1, 1)))
        keeper.take((5, 1))
        self.assertEqual(first, kept)
        self.assertEqual(told, kept_told)
        for part in itertools.chain(first, told):
            self.assertIs(part.__class__, tuple)

    def test_methods_stand_in_the_class(self):
        for name in ("points", "walls", "lay", "put", "take", "wall", "unwall", "back"):
            self.assertIn(name, vars(Keeper))


class PutTests(KeeperCase):

    def test_told(self):
        keeper = Keeper(SPOT)
        self.assertEqual(keeper.put((1, 1)), ((SPOT,), (UP, DOWN)))
        self.assertEqual(state(keeper), (SQUARE, (), (UP, DOWN)))
        self.assertEqual(keeper.put(thing=(-1, -1))[1], tuple(three for three in keeper.lay() if (-1, -1) in three))

    def test_shape(self):
        keeper = Keeper(SQUARE)
        for thing in no_points() + [[5, 5], (5, 5, 5), (True, 5), (5, False), (5, None), ("5", 5), ((5, 5),), SQUARE,
                                    deep(tuple, (5, 5), 15), (5, [5]), (MANY,)]:
            if not is_plain_point(thing):
                self.assertEqual(refused(keeper, "put", thing), (NoPoint, ("shape",)), thing)
        self.assertEqual(state(keeper), (SQUARE, (), (UP, DOWN)))

    def test_far(self):
        keeper = Keeper(SQUARE)
        for thing in ((1001, 0), (0, 1001), (-1001, 0), (0, -1001), (MANY, 0), (0, -MANY), (-1001, 1001)):
            self.assertEqual(refused(keeper, "put", thing), (NoPoint, ("far",)))
        for thing in ((1000, 1000), (-1000, -1000), (1000, -1000), (-1000, 1000), (1000, 0), (0, -1000)):
            self.assertTrue(self.do(keeper, "put", thing))

    def test_there(self):
        for point in SQUARE:
            self.assertEqual(refused(Keeper(SQUARE), "put", point), (NoPoint, ("there",)))

    def test_wall(self):
        keeper = Keeper(((0, 0), (0, 3), (4, 0), (4, 4)))
        keeper.wall(((0, 0), (4, 4)))
        for thing in ((1, 1), (2, 2), (3, 3)):
            self.assertEqual(refused(keeper, "put", thing), (NoPoint, ("wall",)))
        # On the wall's line, but beyond its ends; beside it; on a tie that is no wall.
        for thing in ((5, 5), (-1, -1), (1, 2), (2, 0)):
            self.assertTrue(self.do(keeper, "put", thing))
        self.assertEqual(keeper.walls(), (((0, 0), (4, 4)),))
        keeper.unwall(((0, 0), (4, 4)))
        self.assertTrue(self.do(keeper, "put", (2, 2)))
        self.assertEqual(refused(keeper, "wall", ((0, 0), (4, 4))), (NoTie, ("shape",)))

    def test_too_many(self):
        for field in SIXTEEN:
            keeper = Keeper(field)
            for thing in ((77, 78), (-500, 3)):
                self.assertEqual(refused(keeper, "put", thing), (TooMany, ("points",)))
            keeper = Keeper(field[:15] if not on_one_line(field[:15]) else field[1:])
            for thing in ((77, 78), (78, 77)):
                self.do(keeper, "put", thing)
            self.assertEqual(len(keeper.points()), 16)

    def test_two_words_due(self):
        full = Keeper(GRID_FOUR)
        full.wall(((0, 0), (1, 2)))
        self.assertEqual(refused(full, "put", (True, 5000)), (NoPoint, ("shape",)))
        self.assertEqual(refused(full, "put", (5000, 0)), (NoPoint, ("far",)))
        self.assertEqual(refused(full, "put", (1, 1)), (NoPoint, ("there",)))
        full = Keeper(tuple((3 * x, 3 * y) for x, y in GRID_FOUR))
        full.wall(((0, 0), (3, 3)))
        self.assertEqual(refused(full, "put", (1, 1)), (NoPoint, ("wall",)))
        self.assertEqual(refused(full, "put", (1, 2)), (TooMany, ("points",)))
        far = Keeper(((0, 0), (0, 5), (2000, 0)))
        self.assertEqual(refused(far, "put", (2000, 0)), (NoPoint, ("far",)))


class TakeTests(KeeperCase):

    def test_told(self):
        keeper = Keeper(SQUARE)
        self.assertEqual(keeper.take((1, 1)), ((UP, DOWN), (SPOT,)))
        self.assertEqual(state(keeper), (SPOT, (), (SPOT,)))
        self.assertEqual(Keeper(SQUARE).take(thing=(0, 0)), ((UP, DOWN), (HIGH,)))

    def test_lacks(self):
        keeper = Keeper(SQUARE)
        for thing in no_points() + [[0, 0], (False, 0), (0, False), (True, True), (1, True), (2, 2), (MANY, 0), SQUARE,
                                    ((0, 0),), (0, 0, 0), (-1, -1), None]:
            self.assertEqual(refused(keeper, "take", thing), (NoPoint, ("lacks",)), thing)
        self.assertEqual(state(keeper), (SQUARE, (), (UP, DOWN)))

    def test_wall(self):
        keeper = Keeper(GRID_THREE)
        keeper.wall(((0, 0), (1, 2)))
        keeper.wall(((1, 0), (1, 1)))
        for thing in ((0, 0), (1, 2), (1, 0), (1, 1)):
            self.assertEqual(refused(keeper, "take", thing), (NoPoint, ("wall",)))
        keeper.unwall(((1, 0), (1, 1)))
        self.assertTrue(self.do(keeper, "take", (1, 1)))

    def test_line(self):
        for point in SPOT:
            self.assertEqual(refused(Keeper(SPOT), "take", point), (NoPoint, ("line",)))
        keeper = Keeper(LAST_OFF)
        self.assertEqual(refused(keeper, "take", LAST_OFF[-1]), (NoPoint, ("line",)))
        for point in LAST_OFF[:6]:
            self.assertTrue(self.do(keeper, "take", point))
        self.assertEqual(refused(keeper, "take", LAST_OFF[6]), (NoPoint, ("line",)))

    def test_two_words_due(self):
        keeper = Keeper(SPOT)
        keeper.wall(((0, 0), (0, 1)))
        self.assertEqual(refused(keeper, "take", (0, 0)), (NoPoint, ("wall",)))
        self.assertEqual(refused(keeper, "take", (1, 0)), (NoPoint, ("line",)))
        self.assertEqual(refused(keeper, "take", (False, 0)), (NoPoint, ("lacks",)))

    def test_pairs_become_ties_again(self):
        keeper = Keeper(LAST_OFF)
        self.assertEqual(refused(keeper, "wall", ((0, 0), (2, 2))), (NoTie, ("shape",)))
        keeper.take((1, 1))
        self.assertTrue(self.do(keeper, "wall", ((0, 0), (2, 2))))
        self.assertEqual(refused(keeper, "put", (1, 1)), (NoPoint, ("wall",)))


class WallTests(KeeperCase):

    def test_told(self):
        keeper = Keeper(SQUARE)
        self.assertEqual(keeper.wall(FALLING), ((UP, DOWN), (LOW, HIGH)))
        self.assertEqual(state(keeper), (SQUARE, (FALLING,), (LOW, HIGH)))
        self.assertEqual(keeper.wall(thing=RIGHT_RIM), ((), ()))
        self.assertEqual(keeper.walls(), (FALLING, RIGHT_RIM))
        self.assertEqual(keeper.wall(UPPER_RIM), ((), ()))
        self.assertEqual(keeper.walls(), (FALLING, UPPER_RIM, RIGHT_RIM))

    def test_shape(self):
        keeper = Keeper(GRID_THREE)
        for thing in no_points() + [
                list(RISING), RISING[::-1], (RISING[0],), (RISING[0], RISING[0]), SPOT, ((0, 0), [1, 1]),
                ((0, 0), (True, True)), ((False, 0), (1, 1)), ((0, 0), (2, 2)), ((0, 0), (0, 2)), ((0, 0), (5, 5)),
                (RISING,), RISING + (0,)]:
            self.assertEqual(refused(keeper, "wall", thing), (NoTie, ("shape",)), thing)
        self.assertEqual(keeper.walls(), ())

    def test_there(self):
        keeper = Keeper(SQUARE)
        keeper.wall(RISING)
        self.assertEqual(refused(keeper, "wall", RISING), (NoTie, ("there",)))
        self.assertEqual(refused(keeper, "wall", ((False, 0), (1, 1))), (NoTie, ("shape",)))

    def test_crossed(self):
        keeper = Keeper(SQUARE)
        keeper.wall(RISING)
        self.assertEqual(refused(keeper, "wall", FALLING), (Crossed, (RISING,)))
        self.assertEqual(state(keeper), (SQUARE, (RISING,), (UP, DOWN)))

    def test_the_least_of_several_that_cross(self):
        field = tuple((x, y) for x in range(4) for y in (0, 3)) + ((-1, 1), (5, 2))
        field = tuple(sorted(field))
        across = ((-1, 1), (5, 2))
        for order in itertools.permutations([((x, 0), (x, 3)) for x in range(4)], 3):
            keeper = Keeper(field)
            for wall in order:
                keeper.wall(wall)
            self.assertEqual(refused(keeper, "wall", across), (Crossed, (min(order),)))
            self.assertEqual(keeper.walls(), tuple(sorted(order)))

    def test_all_ties_of_a_lay(self):
        for field in (GRID_THREE, WHEEL, CIRCLE, LOW_ROW):
            keeper = Keeper(field)
            lay = keeper.lay()
            for tie in ties_in(lay):
                self.assertEqual(keeper.wall(tie), ((), ()))
            self.assertEqual(keeper.walls(), tuple(ties_in(lay)))
            for tie in ties(field):
                if tie not in keeper.walls():
                    self.assertIs(refused(keeper, "wall", tie)[0], Crossed)


class UnwallTests(KeeperCase):

    def test_told(self):
        keeper = Keeper(SQUARE)
        keeper.wall(FALLING)
        self.assertEqual(keeper.unwall(FALLING), ((LOW, HIGH), (UP, DOWN)))
        self.assertEqual(state(keeper), (SQUARE, (), (UP, DOWN)))
        keeper.wall(RISING)
        self.assertEqual(keeper.unwall(thing=RISING), ((), ()))

    def test_lacks(self):
        keeper = Keeper(SQUARE)
        keeper.wall(RISING)
        for thing in no_points() + [
                FALLING, RISING[::-1], list(RISING), (list(RISING[0]), RISING[1]), ((False, 0), (1, 1)),
                ((0, 0), (True, True)), (RISING,), ((0, 0), (0, 1)), RISING + RISING, ((0, 0), (5, 5))]:
            self.assertEqual(refused(keeper, "unwall", thing), (NoTie, ("lacks",)), thing)
        self.assertEqual(keeper.walls(), (RISING,))


class BackTests(KeeperCase):

    def test_told(self):
        keeper = Keeper(SPOT)
        self.assertEqual(refused(keeper, "back"), (NoStep, ()))
        keeper.put((1, 1))
        keeper.wall(FALLING)
        self.assertEqual(keeper.back(), ((LOW, HIGH), (UP, DOWN)))
        self.assertEqual(keeper.back(), ((UP, DOWN), (SPOT,)))
        self.assertEqual(state(keeper), (SPOT, (), (SPOT,)))
        for step in range(2):
            self.assertEqual(refused(keeper, "back"), (NoStep, ()))
        self.assertEqual(state(keeper), (SPOT, (), (SPOT,)))

    def test_behind_refused_deeds(self):
        keeper = Keeper(SQUARE)
        keeper.put((5, 5))
        for deed, thing in (("put", (5, 5)), ("put", None), ("take", (9, 9)), ("wall", SPOT), ("unwall", RISING)):
            self.assertTrue(issubclass(refused(keeper, deed, thing)[0], LayError))
        keeper.back()
        self.assertEqual(keeper.points(), SQUARE)
        self.assertEqual(refused(keeper, "back"), (NoStep, ()))

    def test_a_deed_behind_a_back(self):
        keeper = Keeper(SQUARE)
        keeper.put((5, 5))
        keeper.wall(RISING)
        keeper.back()
        keeper.wall(FALLING)
        self.assertEqual((keeper.points(), keeper.walls()), (SQUARE + ((5, 5),), (FALLING,)))
        keeper.back()
        self.assertEqual((keeper.points(), keeper.walls()), (SQUARE + ((5, 5),), ()))
        keeper.back()
        self.assertEqual((keeper.points(), keeper.walls()), (SQUARE, ()))
        self.assertEqual(refused(keeper, "back"), (NoStep, ()))

    def test_each_deed(self):
        keeper = Keeper(GRID_THREE)
        deeds = [("put", (5, 1)), ("wall", ((0, 0), (1, 2))), ("take", (2, 1)), ("unwall", ((0, 0), (1, 2))),
                 ("take", (5, 1))]
        seen = [state(keeper)]
        for deed, thing in deeds:
            self.assertTrue(self.do(keeper, deed, thing))
            seen.append(state(keeper))
        for wanted in seen[-2::-1]:
            ahead = keeper.lay()
            told = keeper.back()
            self.assertEqual(state(keeper), wanted)
            self.look(told, ahead, keeper.lay())


def any_thing_for(source, deed, keeper):
    """A thing for a deed, mostly one that can be done or all but."""
    field, walls, lay = state(keeper)
    point = source.choice(field)
    if source.random() < 0.05:
        return source.choice(no_points())
    if deed == "put":
        a, b = source.choice(ties(field))
        middle = ((a[0] + b[0]) // 2, (a[1] + b[1]) // 2)
        near = (point[0] + source.randint(-2, 2), point[1] + source.randint(-2, 2))
        return source.choice((middle, near, near, (source.randint(-6, 6), source.randint(-6, 6))))
    if deed == "take":
        return source.choice((point, point, point, (point[0], point[1] + 1)))
    if deed == "unwall" and walls:
        return source.choice(walls)
    return source.choice((source.choice(ties(field)), tuple(sorted((point, source.choice(field))))))


class ManyDeedsTests(KeeperCase):

    def go(self, seed, field, many):
        source = random.Random(seed)
        keeper = Keeper(field)
        past = []
        while many:
            deed = source.choice(DEEDS + ("put", "wall", "wall", "back"))
            here = state(keeper)
            if deed == "back" and not past:
                self.assertEqual(refused(keeper, "back"), (NoStep, ()))
            elif deed == "back":
                told = keeper.back()
                self.assertEqual(state(keeper), past.pop())
                self.look(told, here[2], keeper.lay())
            elif self.do(keeper, deed, any_thing_for(source, deed, keeper)):
                past.append(here)
                many -= 1
            else:
                many -= source.random() < 0.3
            self.look_at_lay(keeper)
        # Whatever deeds led there: the lay is that of a new keeper to which the walls alone are told.
        other = Keeper(keeper.points())
        walls = list(keeper.walls())
        source.shuffle(walls)
        for wall in walls:
            other.wall(wall)
        self.assertEqual(state(other), state(keeper))
        while past:
            keeper.back()
            self.assertEqual(state(keeper), past.pop())
        self.assertEqual(state(keeper)[:2], (field, ()))
        self.assertEqual(refused(keeper, "back"), (NoStep, ()))

    def test_many_deeds(self):
        fields = (SPOT, SQUARE, GRID_THREE, LAST_OFF, TWO_OFF, CORNERS, WHEEL[:10], CIRCLE[:12], made_field(5, 8, 3))
        for seed, field in enumerate(fields):
            self.go(seed, field, 40)

    def test_sixteen_points(self):
        for seed, field in enumerate((GRID_FOUR, LADDER, CIRCLE, FLAT_ROW, OUTERMOST)):
            self.go(seed, field, 20)

    def test_sixty_deeds(self):
        self.go(60, made_field(9, 9, 4), 60)

    def test_each_order_of_points(self):
        for field in (GRID_THREE[:6], WHEEL[:6], TWO_OFF[:5] + TWO_OFF[-1:]):
            wanted = plain_lay(field, ())
            for order in list(itertools.permutations(field[3:]))[:6]:
                if not on_one_line(field[:3]):
                    keeper = Keeper(field[:3])
                    for point in order:
                        keeper.put(point)
                    self.assertEqual(state(keeper), (field, (), wanted))
            for point in field:
                keeper = Keeper(field)
                if refused(keeper, "take", point)[0] is not NoPoint:
                    keeper.put(point)
                    self.assertEqual(keeper.lay(), wanted)
