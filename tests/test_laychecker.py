"""[3], [20]: the checker of lays."""

import itertools
import unittest

from tests.samples import (
    CIRCLE, CORNERS, FIELDS, FIRST_OFF, FLAT_ROW, GRID_FOUR, GRID_THREE, LAST_OFF, MANY, NINES, OUTERMOST, OUTER_NINE,
    ROUND_NINE, SIXTEEN, SMALL, SPOT, SQUARE, TWO_OFF, deep, no_points, spoiled)
from tests.shapes import doubled, within
from tests.trying import all_lays, lays_by_choice, lie_over, size, some_lays
from threelays.errors import LayError, NoPaper
from threelays.fields import hull_area
from threelays.laychecker import lets_lay
from threelays.triangles import triangles

LOW, HIGH = SQUARE[:3], SQUARE[1:]
UP, DOWN = (SQUARE[0], SQUARE[1], SQUARE[3]), (SQUARE[0], SQUARE[2], SQUARE[3])


def refused(field, thing):
    """The word and the number with which a thing is refused; None where it is let by."""
    try:
        told = lets_lay(field, thing)
    except NoPaper as error:
        return error.word, error.number
    assert told is True, told
    return None


def is_plain_three(field, three):
    if three.__class__ is not tuple or len(three) != 3:
        return False
    for point in three:
        if point.__class__ is not tuple or len(point) != 2 or any(part.__class__ is not int for part in point):
            return False
    return set(three) <= set(field) and three[0] < three[1] < three[2] and doubled(*three) != 0


def wanted(field, thing):
    """What the document tells, word by word."""
    if thing.__class__ is not tuple:
        return "shape", -1
    for at, three in enumerate(thing):
        if not is_plain_three(field, three):
            return "shape", at
    for at, three in enumerate(thing[1:], 1):
        if not thing[at - 1] < three:
            return "rise", at
    for at, three in enumerate(thing):
        if sum(within(three, point) for point in field) != 3:
            return "void", at
    for at, three in enumerate(thing):
        if any(lie_over(three, other) for other in thing[:at]):
            return "over", at
    if sum(size(three) for three in thing) != hull_area(field):
        return "area", -1
    return None


def changed(field, lay):
    """A lay with one triangle less, more, twice, otherwise, two changed for one another."""
    told = [lay[::-1], lay[1:], lay[:-1], lay + lay[:1], lay + lay[-1:], lay[:1] + lay, ()]
    others = list(itertools.combinations(field, 3))
    others = others[::max(1, len(others) // 12)]
    for at in sorted({0, 1, len(lay) // 2, len(lay) - 1} & set(range(len(lay)))):
        told += [lay[:at] + lay[at + 1:], lay[:at] + lay[at:at + 1] + lay[at:], lay[:at + 1]]
        told += [lay[:at] + (other,) + lay[at + 1:] for other in others]
        told += [tuple(sorted(lay + (other,))) for other in others]
        told += [tuple(sorted(lay[:at] + (other,) + lay[at + 1:])) for other in others]
    return told


class LetByTests(unittest.TestCase):

    def test_told_ones(self):
        self.assertIs(lets_lay(SPOT, (SPOT,)), True)
        self.assertIs(lets_lay(SQUARE, (LOW, HIGH)), True)
        self.assertIs(lets_lay(SQUARE, (UP, DOWN)), True)
        self.assertIs(lets_lay(CORNERS, (CORNERS[:3], CORNERS[1:])), True)
        self.assertIs(lets_lay(LAST_OFF, triangles(LAST_OFF)), True)
        self.assertIs(lets_lay(FIRST_OFF, triangles(FIRST_OFF)), True)
        self.assertIs(lets_lay(FLAT_ROW, triangles(FLAT_ROW)), True)

    def test_all_lays(self):
        for field in NINES:
            for lay in all_lays(field):
                self.assertIs(lets_lay(field, lay), True)

    def test_sixteen_points(self):
        for field in FIELDS:
            for lay in some_lays(field):
                self.assertIs(lets_lay(field, lay), True)

    def test_just_the_lays_of_all_choices(self):
        for field in NINES:
            told = triangles(field)
            if len(told) <= 10:
                choices = [some for many in range(len(told) + 1) for some in itertools.combinations(told, many)]
                found = tuple(sorted(some for some in choices if refused(field, some) is None))
                self.assertEqual(found, lays_by_choice(field))

    def test_by_names(self):
        self.assertIs(lets_lay(thing=(SPOT,), field=SPOT), True)


class RefusedTests(unittest.TestCase):

    def test_the_error(self):
        with self.assertRaises(LayError) as caught:
            lets_lay(SPOT, [SPOT])
        self.assertIs(caught.exception.__class__, NoPaper)
        self.assertEqual((caught.exception.word, caught.exception.number), ("shape", -1))

    def test_no_tuple(self):
        for thing in ([], [SPOT], "", "abc", None, 0, 1, -1, True, False, MANY, [[SPOT]], deep(list, SPOT, 17)):
            self.assertEqual(refused(SPOT, thing), ("shape", -1))

    def test_shapes(self):
        self.assertEqual(refused(SQUARE, (0, HIGH)), ("shape", 0))
        self.assertEqual(refused(SQUARE, (LOW, 0)), ("shape", 1))
        self.assertEqual(refused(SQUARE, (LOW, HIGH, None)), ("shape", 2))
        self.assertEqual(refused(SQUARE, (LOW, list(HIGH))), ("shape", 1))
        self.assertEqual(refused(SQUARE, (LOW, HIGH[:2])), ("shape", 1))
        self.assertEqual(refused(SQUARE, (LOW, SQUARE)), ("shape", 1))
        self.assertEqual(refused(SQUARE, (LOW, HIGH[::-1])), ("shape", 1))
        self.assertEqual(refused(SQUARE, (LOW, ((0, 1), (1, 0), (2, 2)))), ("shape", 1))
        self.assertEqual(refused(SQUARE, (((0, 0), (0, 1), (5, 5)), HIGH)), ("shape", 0))
        self.assertEqual(refused(GRID_THREE, (((0, 0), (1, 1), (2, 2)),)), ("shape", 0))
        self.assertEqual(refused(GRID_THREE, (((0, 0), (0, 0), (1, 1)),)), ("shape", 0))
        self.assertEqual(refused(SPOT, SPOT), ("shape", 0))
        self.assertEqual(refused(SPOT, ((SPOT,),)), ("shape", 0))

    def test_rises(self):
        self.assertEqual(refused(SQUARE, (HIGH, LOW)), ("rise", 1))
        self.assertEqual(refused(SQUARE, (LOW, LOW)), ("rise", 1))
        self.assertEqual(refused(SQUARE, (LOW, HIGH, HIGH)), ("rise", 2))
        self.assertEqual(refused(SQUARE, (LOW, HIGH, LOW)), ("rise", 2))
        self.assertEqual(refused(SPOT, (SPOT, SPOT)), ("rise", 1))

    def test_voids(self):
        great = ((0, 0), (0, 2), (2, 0))
        other = ((0, 2), (2, 0), (2, 2))
        self.assertEqual(refused(GRID_THREE, (great, other)), ("void", 0))
        small = ((0, 0), (0, 1), (1, 0))
        self.assertEqual(refused(GRID_THREE, (small, other)), ("void", 1))
        on_side = ((0, 0), (1, 0), (2, 0), (2, 2))
        self.assertEqual(refused(on_side, (((0, 0), (2, 0), (2, 2)),)), ("void", 0))
        self.assertEqual(refused(on_side, (((0, 0), (1, 0), (2, 2)), ((1, 0), (2, 0), (2, 2)))), None)
        inside = ((0, 0), (2, 1), (3, 0), (3, 3))
        self.assertEqual(refused(inside, (((0, 0), (3, 0), (3, 3)),)), ("void", 0))
        self.assertEqual(refused(inside, (((0, 0), (2, 1), (3, 0)), ((0, 0), (3, 0), (3, 3)))), ("void", 1))

    def test_overs(self):
        self.assertEqual(refused(SQUARE, (LOW, UP)), ("over", 1))
        self.assertEqual(refused(SQUARE, (LOW, DOWN, HIGH)), ("over", 1))
        self.assertEqual(refused(SQUARE, (UP, DOWN, HIGH)), ("over", 2))
        self.assertEqual(refused(SQUARE, (LOW, UP, DOWN, HIGH)), ("over", 1))

    def test_areas(self):
        for field in SMALL + SIXTEEN:
            self.assertEqual(refused(field, ()), ("area", -1))
        for three in triangles(SQUARE):
            self.assertEqual(refused(SQUARE, (three,)), ("area", -1))
        for field in (CIRCLE, GRID_FOUR, OUTERMOST, ROUND_NINE, OUTER_NINE):
            lay = some_lays(field)[0]
            for at in range(len(lay)):
                self.assertEqual(refused(field, lay[:at] + lay[at + 1:]), ("area", -1))

    def test_two_words_due(self):
        void = ((0, 0), (0, 2), (2, 0))
        small = ((0, 0), (0, 1), (1, 0))
        wide = ((0, 0), (0, 1), (1, 1))
        self.assertEqual(refused(GRID_THREE, (wide, small, None)), ("shape", 2))
        self.assertEqual(refused(GRID_THREE, [None]), ("shape", -1))
        self.assertEqual(refused(GRID_THREE, (None, 0)), ("shape", 0))
        self.assertEqual(refused(GRID_THREE, (void, small)), ("rise", 1))
        self.assertEqual(refused(GRID_THREE, (small, small, small)), ("rise", 1))
        self.assertEqual(refused(GRID_THREE, (small, wide, void)), ("void", 2))
        self.assertEqual(refused(GRID_THREE, (void, ((0, 0), (1, 0), (2, 2)))), ("void", 0))
        self.assertEqual(refused(GRID_THREE, (small, wide)), ("over", 1))

    def test_changed_lays(self):
        seen = {}
        for field in NINES + SIXTEEN:
            for lay in some_lays(field)[:2]:
                for thing in changed(field, lay):
                    told = refused(field, thing)
                    self.assertEqual(told, wanted(field, thing))
                    seen.setdefault(told and told[0], set()).add(told and told[1])
        self.assertEqual(set(seen), {None, "shape", "rise", "void", "over", "area"})
        self.assertTrue(all(len(seen[word]) > 2 for word in ("shape", "rise", "void", "over")))

    def test_spoiled(self):
        for field in (SPOT, SQUARE, TWO_OFF):
            for lay in all_lays(field)[:3]:
                for thing in spoiled(lay):
                    self.assertEqual(refused(field, thing), wanted(field, thing))

    def test_truths_in_each_place(self):
        for at, where, axis in itertools.product(range(2), range(3), range(2)):
            lay = [[list(point) for point in three] for three in (LOW, HIGH)]
            lay[at][where][axis] = lay[at][where][axis] == 1
            thing = tuple(tuple(tuple(point) for point in three) for three in lay)
            self.assertEqual(refused(SQUARE, thing), ("shape", at))

    def test_any_thing(self):
        things = [deep(tuple, SPOT, 17), deep(tuple, (SPOT,), 16), list((SPOT,)), ([SPOT],), (list(SPOT),),
                  (tuple(list(point) for point in SPOT),), (SPOT,) * 500, (SPOT, (SPOT, ())), SQUARE]
        for thing in no_points() + things:
            for field in (SPOT, SQUARE, GRID_FOUR):
                self.assertEqual(refused(field, thing), wanted(field, thing))
