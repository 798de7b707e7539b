"""[56]: the plain checker."""

import unittest

from tests.samples import (
    CIRCLE, FIELDS, GRID_FOUR, GRID_THREE, LAST_OFF, NINES, OUTERMOST, SIXTEEN, SPOT, SQUARE, TWO_OFF, deep, no_points,
    spoiled)
from tests.test_laychecker import changed
from tests.test_laychecker import wanted as wanted_of_lay
from tests.trying import all_lays, hull_ties, many_walls, plain_lays, some_lays, ties_in, unplain_ties
from threelays.errors import LayError, NoPaper
from threelays.plain import plain_lay
from threelays.plainchecker import lets_plain
from threelays.ties import ties

LOW, HIGH = SQUARE[:3], SQUARE[1:]
UP, DOWN = (SQUARE[0], SQUARE[1], SQUARE[3]), (SQUARE[0], SQUARE[2], SQUARE[3])
FALLING, RISING = ((0, 1), (1, 0)), ((0, 0), (1, 1))
RIM = (((0, 0), (0, 1)), ((0, 0), (1, 0)), ((0, 1), (1, 1)), ((1, 0), (1, 1)))


def refused(field, walls, thing):
    """The word and the number with which a thing is refused; None where it is let by."""
    try:
        told = lets_plain(field, walls, thing)
    except NoPaper as error:
        return error.word, error.number
    assert told is True, told
    return None


def wanted(field, walls, thing):
    """What the document tells, word by word."""
    if wanted_of_lay(field, thing) is not None:
        return wanted_of_lay(field, thing)
    held = ties_in(thing)
    for at, wall in enumerate(walls):
        if wall not in held:
            return "wall", at
    left = unplain_ties(field, walls, thing)
    for at, tie in enumerate(held):
        if tie in left:
            return "plain", at
    return None


class LetByTests(unittest.TestCase):

    def test_told_ones(self):
        self.assertIs(lets_plain(SPOT, (), (SPOT,)), True)
        self.assertIs(lets_plain(SQUARE, (), (UP, DOWN)), True)
        self.assertIs(lets_plain(SQUARE, (RISING,), (UP, DOWN)), True)
        self.assertIs(lets_plain(SQUARE, (FALLING,), (LOW, HIGH)), True)
        self.assertIs(lets_plain(SQUARE, RIM, (UP, DOWN)), True)

    def test_just_one_lay(self):
        for field in NINES:
            for walls in many_walls(field)[::2]:
                some = all_lays(field)[-50:]
                found = [lay for lay in some if refused(field, walls, lay) is None]
                self.assertEqual(found, [lay for lay in plain_lays(field, walls) if lay in some])
                self.assertIs(lets_plain(field, walls, plain_lay(field, walls)), True)

    def test_sixteen_points(self):
        for field in SIXTEEN + FIELDS[-3:]:
            for walls in many_walls(field):
                self.assertIs(lets_plain(field, walls, plain_lay(field, walls)), True)

    def test_all_of_a_lay_as_walls(self):
        for field in FIELDS:
            for lay in some_lays(field)[:2]:
                self.assertIs(lets_plain(field, tuple(ties_in(lay)), lay), True)

    def test_by_names(self):
        self.assertIs(lets_plain(thing=(UP, DOWN), walls=(), field=SQUARE), True)


class RefusedTests(unittest.TestCase):

    def test_the_error(self):
        with self.assertRaises(LayError) as caught:
            lets_plain(SQUARE, (), (LOW, HIGH))
        self.assertIs(caught.exception.__class__, NoPaper)
        self.assertEqual(vars(caught.exception), {"word": "plain", "number": 2})

    def test_what_the_checker_of_lays_refuses(self):
        self.assertEqual(refused(SQUARE, (), [UP, DOWN]), ("shape", -1))
        self.assertEqual(refused(SQUARE, (), (UP, list(DOWN))), ("shape", 1))
        self.assertEqual(refused(SQUARE, (), (UP, DOWN, None)), ("shape", 2))
        self.assertEqual(refused(SQUARE, (), (DOWN, UP)), ("rise", 1))
        self.assertEqual(refused(GRID_THREE, (), (((0, 0), (0, 2), (2, 0)), ((0, 2), (2, 0), (2, 2)))), ("void", 0))
        self.assertEqual(refused(SQUARE, (), (LOW, UP)), ("over", 1))
        self.assertEqual(refused(SQUARE, (), (UP,)), ("area", -1))
        self.assertEqual(refused(SQUARE, (), ()), ("area", -1))

    def test_walls(self):
        self.assertEqual(refused(SQUARE, (RISING,), (LOW, HIGH)), ("wall", 0))
        self.assertEqual(refused(SQUARE, (FALLING,), (UP, DOWN)), ("wall", 0))
        self.assertEqual(refused(SQUARE, RIM[:2] + (FALLING,) + RIM[2:], (UP, DOWN)), ("wall", 2))
        self.assertEqual(refused(SQUARE, RIM[:1] + (FALLING,), (UP, DOWN)), ("wall", 1))

    def test_plain(self):
        # The rim's two ties from the least point come ahead of it.
        self.assertEqual(refused(SQUARE, (), (LOW, HIGH)), ("plain", 2))
        self.assertEqual(refused(SQUARE, RIM, (LOW, HIGH)), ("plain", 2))

    def test_two_words_due(self):
        # No lay, and without the wall; without the wall, and with what is not plain; two walls that it hasn't.
        self.assertEqual(refused(SQUARE, (RISING,), (LOW,)), ("area", -1))
        self.assertEqual(refused(SQUARE, (RISING,), (LOW, HIGH)), ("wall", 0))
        lay = all_lays(GRID_THREE)[-1]
        lacking = [tie for tie in ties(GRID_THREE) if tie not in ties_in(lay)]
        pair = [(one, other) for one in lacking for other in lacking if one < other and any(
            {one, other} <= set(ties_in(found)) for found in all_lays(GRID_THREE))][0]
        self.assertEqual(refused(GRID_THREE, pair, lay), ("wall", 0))
        both = tuple(sorted(pair + (((0, 0), (0, 1)),)))
        self.assertEqual(refused(GRID_THREE, both, lay), wanted(GRID_THREE, both, lay))
        found = [lay for lay in all_lays(GRID_THREE) if len(unplain_ties(GRID_THREE, (), lay)) > 1]
        for lay in found:
            first = unplain_ties(GRID_THREE, (), lay)[0]
            self.assertEqual(refused(GRID_THREE, (), lay), ("plain", ties_in(lay).index(first)))

    def test_all_lays(self):
        seen = {}
        for field in NINES:
            for walls in many_walls(field)[:6]:
                for lay in all_lays(field)[:25]:
                    told = refused(field, walls, lay)
                    self.assertEqual(told, wanted(field, walls, lay))
                    seen.setdefault(told and told[0], set()).add(told and told[1])
        self.assertEqual(set(seen), {None, "wall", "plain"})
        self.assertTrue(len(seen["wall"]) > 2 and len(seen["plain"]) > 2)

    def test_lays_of_sixteen(self):
        for field in SIXTEEN + FIELDS[-3:]:
            for walls in many_walls(field)[:6]:
                for lay in some_lays(field):
                    self.assertEqual(refused(field, walls, lay), wanted(field, walls, lay))

    def test_changed_lays(self):
        for field in NINES[:20] + (GRID_FOUR, CIRCLE, OUTERMOST):
            walls = many_walls(field)[2]
            for thing in changed(field, plain_lay(field, walls))[::3]:
                self.assertEqual(refused(field, walls, thing), wanted(field, walls, thing))

    def test_spoiled(self):
        for field in (SPOT, SQUARE, TWO_OFF):
            for thing in spoiled(plain_lay(field, ())):
                self.assertEqual(refused(field, (), thing), wanted(field, (), thing))
        for at in range(2):
            thing = [UP, DOWN]
            thing[at] = ((False, 0),) + thing[at][1:]
            self.assertEqual(refused(SQUARE, (RISING,), tuple(thing)), ("shape", at))

    def test_any_thing(self):
        things = [deep(tuple, (UP, DOWN), 16), deep(list, (UP, DOWN), 16), (UP, DOWN) * 200, (RISING,), RISING]
        for thing in no_points() + things:
            for field, walls in ((SQUARE, ()), (SQUARE, (RISING,)), (LAST_OFF, ()), (GRID_FOUR, ties(GRID_FOUR)[:1])):
                self.assertEqual(refused(field, walls, thing), wanted(field, walls, thing))

    def test_hull_ties_are_never_asked(self):
        for field in FIELDS:
            lay = plain_lay(field, ())
            self.assertIs(lets_plain(field, tuple(sorted(hull_ties(field))), lay), True)
