"""[4], [50], [51], [52]: turns."""

import functools
import itertools
import unittest

from tests.samples import (
    BOTH_OFF, CIRCLE, CORNERS, FIELDS, FIRST_OFF, FLAT_ROW, GRID_FOUR, GRID_THREE, LADDER, LAST_OFF, LOW_ROW, NINES,
    OUTERMOST, OUTER_NINE, SIXTEEN, SPOT, SQUARE, TWO_OFF, bowl, deep, no_points, spoiled)
from tests.shapes import do_cross, doubled
from tests.trying import all_lays, hull_ties, sides, some_lays, ties_in, tried_turn
from threelays.errors import LayError, NoTie
from threelays.laychecker import lets_lay
from threelays.lays import opposite
from threelays.ties import ties
from threelays.triangles import triangles
from threelays.turns import can_turn, turned, turns

LOW, HIGH = SQUARE[:3], SQUARE[1:]
UP, DOWN = (SQUARE[0], SQUARE[1], SQUARE[3]), (SQUARE[0], SQUARE[2], SQUARE[3])
FALLING, RISING = ((0, 1), (1, 0)), ((0, 0), (1, 1))
# The tie from the middle of the lower side makes a four-corner with a flat corner.
FLAT = ((0, 0), (1, 0), (1, 1), (2, 0))
FLAT_LAY = (FLAT[:3], FLAT[1:])
# The point within makes three four-corners with an inward corner.
INWARD = ((0, 0), (2, 1), (2, 4), (4, 0))
INWARD_LAY = (INWARD[:3], (INWARD[0], INWARD[1], INWARD[3]), INWARD[1:])


def word_of(field, lay, thing):
    """The word with which a thing is refused; None where it is turned."""
    try:
        turned(field, lay, thing)
    except NoTie as error:
        return error.word
    return None


@functools.lru_cache(maxsize=None)
def shown_ties(field):
    """All ties of a field as Python shows them: truths and lists do not look like numbers and tuples there."""
    return {repr(tie) for tie in ties(field)}


@functools.lru_cache(maxsize=None)
def rim_of(field):
    return hull_ties(field)


def is_tie_of(field, thing):
    return repr(thing) in shown_ties(field)


def wanted(field, lay, thing):
    """What the document tells, word by word."""
    if not is_tie_of(field, thing) or thing not in ties_in(lay):
        return "away"
    if thing in rim_of(field):
        return "hull"
    one, other = [point for three in lay if set(thing) <= set(three) for point in three if point not in thing]
    both = doubled(*thing, one) * doubled(*thing, other) < 0
    if not both or doubled(one, other, thing[0]) * doubled(one, other, thing[1]) >= 0:
        return "flat"
    return None


def some_of(field):
    """All lays of a small field, some of a greater one."""
    return all_lays(field)[:60] if len(field) <= 9 else some_lays(field)


def wrong_things(lay):
    """Things that are no ties, made of a lay's own."""
    told = []
    for a, b in ties_in(lay)[:6]:
        told += [(b, a), [a, b], (list(a), b), (a, list(b)), (a, a), (a,), (a, b, b), ((a, b),), [(a, b)], a, None]
    return told + [lay, lay[0], (), "", list(lay[0][:2])]


class CanTurnTests(unittest.TestCase):

    def test_told_ones(self):
        self.assertIs(can_turn(SQUARE, (LOW, HIGH), FALLING), True)
        self.assertIs(can_turn(SQUARE, (UP, DOWN), RISING), True)
        self.assertIs(can_turn(SQUARE, (LOW, HIGH), RISING), False)
        self.assertIs(can_turn(SQUARE, (LOW, HIGH), ((0, 0), (0, 1))), False)
        self.assertIs(can_turn(FLAT, FLAT_LAY, ((1, 0), (1, 1))), False)
        for tie in ties(INWARD):
            self.assertIs(can_turn(INWARD, INWARD_LAY, tie), False)

    def test_each_tie(self):
        for field in FIELDS:
            for lay in some_of(field)[:6]:
                for tie in ties(field):
                    found = can_turn(field, lay, tie)
                    self.assertIs(found, wanted(field, lay, tie) is None)

    def test_just_where_another_lay_has_all_other_ties(self):
        for field in NINES:
            for lay in some_of(field)[::6]:
                for tie in ties_in(lay):
                    found = can_turn(field, lay, tie)
                    self.assertIs(found, tie not in hull_ties(field) and tried_turn(field, lay, tie) is not None)

    def test_any_thing(self):
        for field, lay in ((SQUARE, (LOW, HIGH)), (GRID_FOUR, some_lays(GRID_FOUR)[0]), (FLAT, FLAT_LAY)):
            for thing in no_points() + wrong_things(lay) + [deep(tuple, FALLING, 17), deep(list, FALLING, 17)]:
                self.assertIs(can_turn(field, lay, thing), False)

    def test_spoiled(self):
        for thing in spoiled(FALLING):
            self.assertIs(can_turn(SQUARE, (LOW, HIGH), thing), False, thing)
        self.assertIs(can_turn(SQUARE, (LOW, HIGH), ((False, 1), (1, 0))), False)
        self.assertIs(can_turn(SQUARE, (UP, DOWN), ((0, 0), (True, True))), False)

    def test_by_names(self):
        self.assertIs(can_turn(thing=FALLING, lay=(LOW, HIGH), field=SQUARE), True)


class TurnsTests(unittest.TestCase):

    def test_told_ones(self):
        self.assertEqual(turns(SQUARE, (LOW, HIGH)), [FALLING])
        self.assertEqual(turns(SQUARE, (UP, DOWN)), [RISING])
        self.assertEqual(turns(SPOT, (SPOT,)), [])
        self.assertEqual(turns(FLAT, FLAT_LAY), [])
        self.assertEqual(turns(INWARD, INWARD_LAY), [])

    def test_all_that_can_be_turned(self):
        for field in FIELDS:
            for lay in some_of(field)[-5:]:
                told = turns(field, lay)
                self.assertIs(told.__class__, list)
                self.assertEqual(told, [tie for tie in ties(field) if wanted(field, lay, tie) is None])
                self.assertEqual(told, [tie for tie in ties(field) if can_turn(field, lay, tie)])

    def test_all_but_one_on_a_line(self):
        for field in (LAST_OFF, FIRST_OFF, FLAT_ROW, LOW_ROW):
            for lay in some_lays(field):
                self.assertEqual(turns(field, lay), [])

    def test_rounds(self):
        # Each inner tie of points on a round can be turned.
        for field in (CIRCLE, bowl(9), bowl(16)):
            for lay in some_lays(field):
                self.assertEqual(turns(field, lay), [tie for tie in ties_in(lay) if tie not in hull_ties(field)])

    def test_a_new_list_each_time(self):
        for field, lay in ((SQUARE, (LOW, HIGH)), (SPOT, (SPOT,))):
            first = turns(field, lay)
            kept = list(first)
            first.append("x")
            self.assertEqual(turns(field, lay), kept)

    def test_by_names(self):
        self.assertEqual(turns(lay=(LOW, HIGH), field=SQUARE), [FALLING])


class TurnedTests(unittest.TestCase):

    def test_told_ones(self):
        self.assertEqual(turned(SQUARE, (LOW, HIGH), FALLING), (UP, DOWN))
        self.assertEqual(turned(SQUARE, (UP, DOWN), RISING), (LOW, HIGH))
        self.assertEqual(turned(CORNERS, (CORNERS[:3], CORNERS[1:]), CORNERS[1:3]),
                         ((CORNERS[0], CORNERS[1], CORNERS[3]), (CORNERS[0], CORNERS[2], CORNERS[3])))

    def test_the_two_that_the_other_diagonal_makes(self):
        for field in FIELDS:
            for lay in some_of(field)[:6]:
                for tie in turns(field, lay):
                    told = turned(field, lay, tie)
                    self.assertIs(told.__class__, tuple)
                    self.assertIs(lets_lay(field, told), True)
                    self.assertEqual(told, tried_turn(field, lay, tie)[0])
                    gone = [three for three in lay if tie in sides(three)]
                    self.assertEqual(sorted(set(lay) - set(told)), gone)
                    across = tuple(sorted({point for three in gone for point in three} - set(tie)))
                    self.assertEqual(set(told) - set(lay), {tuple(sorted(across + (end,))) for end in tie})

    def test_turned_and_back_again(self):
        for field in NINES + SIXTEEN:
            for lay in some_of(field)[:6]:
                for tie in turns(field, lay):
                    told = turned(field, lay, tie)
                    other = opposite(lay, tie)
                    self.assertTrue(do_cross(tie, other))
                    self.assertEqual(set(ties_in(told)), (set(ties_in(lay)) - {tie}) | {other})
                    self.assertIs(can_turn(field, told, other), True)
                    self.assertEqual(turned(field, told, other), lay)

    def test_all_lays_hang_together(self):
        for field in (GRID_THREE, OUTER_NINE, TWO_OFF, BOTH_OFF, bowl(7)):
            found = {all_lays(field)[0]: True}
            edge = list(found)
            while edge:
                made = {turned(field, lay, tie): True for lay in edge for tie in turns(field, lay)}
                edge = [lay for lay in made if lay not in found]
                found.update(made)
            self.assertEqual(tuple(sorted(found)), all_lays(field))

    def test_by_names(self):
        self.assertEqual(turned(thing=FALLING, lay=(LOW, HIGH), field=SQUARE), (UP, DOWN))


class RefusedTests(unittest.TestCase):

    def test_the_error(self):
        with self.assertRaises(LayError) as caught:
            turned(SQUARE, (LOW, HIGH), RISING)
        self.assertIs(caught.exception.__class__, NoTie)
        self.assertEqual(vars(caught.exception), {"word": "away"})

    def test_away(self):
        self.assertEqual(word_of(SQUARE, (LOW, HIGH), RISING), "away")
        self.assertEqual(word_of(SQUARE, (LOW, HIGH), ((1, 0), (0, 1))), "away")
        self.assertEqual(word_of(GRID_THREE, all_lays(GRID_THREE)[0], ((0, 0), (0, 2))), "away")
        self.assertEqual(word_of(SQUARE, (LOW, HIGH), ((0, 0), (7, 7))), "away")

    def test_hull(self):
        for field in FIELDS:
            for lay in some_of(field)[:2]:
                for tie in hull_ties(field):
                    self.assertEqual(word_of(field, lay, tie), "hull")

    def test_flat(self):
        self.assertEqual(word_of(FLAT, FLAT_LAY, ((1, 0), (1, 1))), "flat")
        for tie in (INWARD[:2], INWARD[1:3], (INWARD[1], INWARD[3])):
            self.assertEqual(word_of(INWARD, INWARD_LAY, tie), "flat")

    def test_two_words_due(self):
        # A hull tie cannot be turned either; one turned about is no tie, and no hull tie.
        self.assertEqual(word_of(SQUARE, (LOW, HIGH), ((0, 0), (0, 1))), "hull")
        self.assertEqual(word_of(SQUARE, (LOW, HIGH), ((0, 1), (0, 0))), "away")
        self.assertEqual(word_of(FLAT, FLAT_LAY, ((1, 1), (1, 0))), "away")
        # Between the outer two of a line there is a point: no tie, though a part of the rim.
        self.assertEqual(word_of(FLAT, FLAT_LAY, ((0, 0), (2, 0))), "away")

    def test_each_tie(self):
        seen = set()
        for field in FIELDS:
            for lay in some_of(field)[:4]:
                for tie in ties(field):
                    found = word_of(field, lay, tie)
                    self.assertEqual(found, wanted(field, lay, tie))
                    seen.add(found)
        self.assertEqual(seen, {None, "away", "hull", "flat"})

    def test_any_thing(self):
        for field, lay in ((SQUARE, (LOW, HIGH)), (OUTERMOST, some_lays(OUTERMOST)[0]), (FLAT, FLAT_LAY)):
            for thing in no_points() + wrong_things(lay) + [deep(tuple, FALLING, 17), triangles(field)]:
                self.assertEqual(word_of(field, lay, thing), "away")

    def test_spoiled(self):
        for tie in (FALLING, ((0, 0), (0, 1)), ((0, 0), (1, 0))):
            for thing in spoiled(tie):
                self.assertEqual(word_of(SQUARE, (LOW, HIGH), thing), "away", thing)

    def test_points_by_pairs(self):
        for field in (GRID_THREE, LADDER):
            lay = some_lays(field)[0]
            for pair in itertools.product(field, repeat=2):
                self.assertEqual(word_of(field, lay, pair), wanted(field, lay, pair))
