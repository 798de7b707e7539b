"""[36], [37], [38]: the checker of count papers."""

import itertools
import random
import unittest

from tests.samples import (
    BOTH_OFF, CORNERS, GRID_THREE, LAST_OFF, MANY, NEEDLE, NINES, OUTER_NINE, ROUND_NINE, SMALL, SPOT, SQUARE,
    TWO_COLUMNS, TWO_OFF, bowl, deep, no_points, spoiled)
from tests.trying import all_fronts, all_lays, tried_advances, tried_paper
from threelays.countchecker import lets_count
from threelays.counting import count
from threelays.errors import LayError, NoPaper
from threelays.fields import lower, upper
from threelays.triangles import triangles

LOW, HIGH = SQUARE[:3], SQUARE[1:]
MENU = triangles(SQUARE)
TOP = upper(SQUARE)
BOTTOM = lower(SQUARE)
RISING = ((0, 0), (1, 1))
# The paper of all four triangles of the square, row by row.
PAPER = ((TOP, 1, 1), (SQUARE, 0, 1), (TOP, 0, 1), (RISING, 0, 1), (BOTTOM, 0, 2))
SOME = (SPOT, SQUARE, NEEDLE, LAST_OFF, bowl(5), TWO_COLUMNS, TWO_OFF) + NINES[13:24]


def refused(field, menu, thing):
    """The word and the number with which a thing is refused; the number told where it is let by."""
    try:
        told = lets_count(field, menu, thing)
    except NoPaper as error:
        return error.word, error.number
    assert told.__class__ is int, told
    return told


def is_plain_row(field, row):
    if row.__class__ is not tuple or len(row) != 3 or row[1].__class__ is not int or row[2].__class__ is not int:
        return False
    front = row[0]
    if front.__class__ is not tuple or any(point.__class__ is not tuple for point in front):
        return False
    if any(part.__class__ is not int for point in front for part in point):
        return False
    return front in all_fronts(field) and 0 <= row[1] <= len(front) - 2


def wanted(field, menu, thing):
    """What the document tells, word by word."""
    if thing.__class__ is not tuple or not thing:
        return "shape", -1
    for at, row in enumerate(thing):
        if not is_plain_row(field, row):
            return "row", at
    for at, (front, mark, number) in enumerate(thing):
        total = 1
        if front != upper(field):
            total = 0
            for place, three, came in tried_advances(menu, front, mark):
                ahead = [row for row in thing[:at] if row[:2] == (came, place)]
                if not ahead:
                    return "ahead", at
                total += ahead[-1][2]
        if number != total:
            return "number", at
    if thing[-1][:2] != (lower(field), 0):
        return "last", len(thing) - 1
    return thing[-1][2]


class LetByTests(unittest.TestCase):

    def test_told_ones(self):
        self.assertEqual(lets_count(SQUARE, MENU, PAPER), 2)
        self.assertEqual(lets_count(SQUARE, (LOW, HIGH), PAPER[:2] + ((BOTTOM, 0, 1),)), 1)
        self.assertEqual(lets_count(SPOT, (SPOT,), ((upper(SPOT), 0, 1), (lower(SPOT), 0, 1))), 1)

    def test_menus_without_triangles(self):
        for field in NINES:
            self.assertEqual(lets_count(field, (), ((lower(field), 0, 0),)), 0)

    def test_menus_without_lays(self):
        self.assertEqual(lets_count(SQUARE, (HIGH,), ((BOTTOM, 0, 0),)), 0)
        self.assertEqual(lets_count(SQUARE, (LOW,), ((SQUARE, 0, 0), (BOTTOM, 0, 0))), 0)

    def test_papers_by_trying(self):
        source = random.Random(37)
        for field in NINES:
            told = triangles(field)
            for menu in (told, told[1:], tuple(sorted(source.sample(told, len(told) * 3 // 4))), all_lays(field)[-1]):
                paper = tried_paper(field, menu)
                self.assertEqual(lets_count(field, menu, paper), count(field, menu))

    def test_rows_more(self):
        more = (
            (TOP, 0, 1), (TOP, 1, 1), (RISING, 0, 1), (SQUARE, 2, 1), (SQUARE, 1, 1), (BOTTOM, 1, 1), (SQUARE, 0, 1))
        for many in range(len(more) + 1):
            self.assertEqual(lets_count(SQUARE, MENU, PAPER[:4] + more[:many] + PAPER[4:]), 2)
        self.assertEqual(lets_count(SQUARE, MENU, PAPER + PAPER), 2)
        self.assertEqual(lets_count(SQUARE, MENU, PAPER + PAPER[-1:]), 2)
        self.assertEqual(lets_count(SQUARE, MENU, PAPER[:1] * 50 + PAPER), 2)

    def test_rows_in_another_order(self):
        for order in itertools.permutations(PAPER):
            self.assertEqual(refused(SQUARE, MENU, order), wanted(SQUARE, MENU, order))
        self.assertEqual(lets_count(SQUARE, MENU, (PAPER[2], PAPER[3], PAPER[0], PAPER[1], PAPER[4])), 2)

    def test_each_mark_of_the_upper_front(self):
        field = GRID_THREE
        marks = tuple((upper(field), mark, 1) for mark in range(len(upper(field)) - 1))
        self.assertEqual(lets_count(field, triangles(field), marks + tried_paper(field, triangles(field))), 64)

    def test_by_names(self):
        self.assertEqual(lets_count(thing=PAPER, menu=MENU, field=SQUARE), 2)


class RefusedTests(unittest.TestCase):

    def test_the_error(self):
        with self.assertRaises(LayError) as caught:
            lets_count(SQUARE, MENU, ())
        self.assertIs(caught.exception.__class__, NoPaper)
        self.assertEqual((caught.exception.word, caught.exception.number), ("shape", -1))

    def test_shape(self):
        for thing in ((), [], list(PAPER), None, 0, 2, True, "", "ab", deep(list, PAPER, 14)):
            self.assertEqual(refused(SQUARE, MENU, thing), ("shape", -1))

    def test_rows(self):
        for at in range(len(PAPER)):
            front, mark, number = PAPER[at]
            wrong = [
                None, 0, (), [], list(PAPER[at]), PAPER[at][:2], PAPER[at] + (1,), (front, mark, None),
                (front, mark, str(number)), (front, mark, (number,)), (front, mark, [number]),
                (front, mark, number == 1), (front, -1, number), (front, len(front) - 1, number), (front, MANY, number),
                (front, mark == 1, number), (front, None, number), (list(front), mark, number),
                (front[::-1], mark, number), (front[1:], mark, number), (front[:-1], mark, number),
                (((0, 0), (0, 1), (2, 2)), 0, number), ((), 0, number), (front[:1], 0, number), (MENU, 0, number),
                (mark, front, number), (front, mark, number, number), ((front, mark), number, 1)]
            for row in wrong:
                self.assertEqual(refused(SQUARE, MENU, PAPER[:at] + (row,) + PAPER[at + 1:]), ("row", at), row)

    def test_fronts_that_are_none(self):
        thing = ((((0, 0), (2, 2)), 0, 1),)
        self.assertEqual(refused(GRID_THREE, triangles(GRID_THREE), thing), ("row", 0))

    def test_the_greatest_mark(self):
        for front in all_fronts(SQUARE):
            for mark in range(6):
                told = refused(SQUARE, (), ((front, mark, 7),))
                if mark > len(front) - 2:
                    self.assertEqual(told, ("row", 0))
                else:
                    self.assertEqual(told, ("number", 0))

    def test_ahead(self):
        self.assertEqual(refused(SQUARE, MENU, PAPER[1:]), ("ahead", 0))
        self.assertEqual(refused(SQUARE, MENU, PAPER[:2] + PAPER[3:]), ("ahead", 2))
        self.assertEqual(refused(SQUARE, MENU, PAPER[:1] + PAPER[2:]), ("ahead", 3))
        self.assertEqual(refused(SQUARE, MENU, PAPER[:3] + PAPER[4:]), ("ahead", 3))
        self.assertEqual(refused(SQUARE, MENU, PAPER[-1:]), ("ahead", 0))
        self.assertEqual(refused(SQUARE, MENU, PAPER[-1:] + PAPER), ("ahead", 0))
        # A row of the front that comes, but with another mark.
        self.assertEqual(refused(SQUARE, MENU, ((TOP, 0, 1), (SQUARE, 0, 1))), ("ahead", 1))
        self.assertEqual(refused(SQUARE, MENU, ((TOP, 1, 1), (RISING, 0, 1))), ("ahead", 1))

    def test_number(self):
        for at in range(len(PAPER)):
            front, mark, number = PAPER[at]
            for other in (number - 1, number + 1, 0, -1, -number, MANY, -MANY):
                thing = PAPER[:at] + ((front, mark, other),) + PAPER[at + 1:]
                self.assertEqual(refused(SQUARE, MENU, thing), ("number", at))
        self.assertEqual(refused(SQUARE, (), ((BOTTOM, 0, 1),)), ("number", 0))
        self.assertEqual(refused(SQUARE, MENU, ((TOP, 0, 0),)), ("number", 0))

    def test_last(self):
        for at in range(1, len(PAPER)):
            self.assertEqual(refused(SQUARE, MENU, PAPER[:at]), ("last", at - 1))
        self.assertEqual(refused(SQUARE, MENU, PAPER + PAPER[:1]), ("last", 5))
        # The lower front with another mark.
        self.assertEqual(refused(SQUARE, MENU, PAPER + ((BOTTOM, 1, 1),)), ("last", 5))
        self.assertEqual(refused(SQUARE, (), ((BOTTOM, 1, 0),)), ("last", 0))

    def test_two_words_due(self):
        front, mark, number = PAPER[1]
        # A row that is none goes ahead of a wrong row ahead of it.
        self.assertEqual(refused(SQUARE, MENU, ((TOP, 1, 5), None)), ("row", 1))
        self.assertEqual(refused(SQUARE, MENU, (None, None)), ("row", 0))
        self.assertEqual(refused(SQUARE, MENU, [None]), ("shape", -1))
        # In one row what lacks ahead goes ahead of the number; a wrong number ahead of what lacks further on.
        self.assertEqual(refused(SQUARE, MENU, ((front, mark, 9),)), ("ahead", 0))
        self.assertEqual(refused(SQUARE, MENU, ((TOP, 1, 5), (BOTTOM, 0, 2))), ("number", 0))
        self.assertEqual(refused(SQUARE, MENU, ((BOTTOM, 0, 2), (TOP, 1, 5))), ("ahead", 0))
        # The last row's place is asked behind all else.
        self.assertEqual(refused(SQUARE, MENU, ((TOP, 1, 5),)), ("number", 0))
        self.assertEqual(refused(SQUARE, MENU, ((SQUARE, 0, 1),)), ("ahead", 0))

    def test_of_several_rows_ahead_any_is_right(self):
        # All that are let by have one number, so a second one that differs is refused itself.
        thing = PAPER[:4] + ((SQUARE, 0, 2),) + PAPER[4:]
        self.assertEqual(refused(SQUARE, MENU, thing), ("number", 4))

    def test_spoiled(self):
        for thing in spoiled(PAPER):
            self.assertEqual(refused(SQUARE, MENU, thing), wanted(SQUARE, MENU, thing))

    def test_any_thing(self):
        things = [deep(tuple, PAPER, 14), (PAPER,), (list(PAPER[0]),), PAPER[0], ((),), (((), (), ()),), MENU]
        for thing in no_points() + things:
            self.assertEqual(refused(SQUARE, MENU, thing), wanted(SQUARE, MENU, thing))

    def test_another_menu_or_field(self):
        self.assertEqual(refused(SQUARE, (LOW, HIGH), PAPER), ("number", 3))
        self.assertEqual(refused(SQUARE, (), PAPER), ("number", 1))
        self.assertEqual(refused(SQUARE, MENU[:1], PAPER), ("number", 1))
        self.assertEqual(refused(CORNERS, triangles(CORNERS), PAPER), ("row", 0))


def changed(field, source, paper):
    """A paper with one number, mark, front or row otherwise, one less or more, two changed for one another."""
    fronts = all_fronts(field)
    for at in sorted(source.sample(range(len(paper)), min(8, len(paper)))):
        front, mark, number = paper[at]
        other = source.choice(fronts)
        yield paper[:at] + paper[at + 1:]
        yield paper[at:] + paper[:at]
        yield paper[:at + 1]
        yield paper[:at] + ((front, mark, number + source.choice((1, -1, 2))),) + paper[at + 1:]
        yield paper[:at] + ((front, mark + source.choice((1, -1)), number),) + paper[at + 1:]
        yield paper[:at] + ((other, source.randrange(len(other)), number),) + paper[at + 1:]
        yield paper[:at] + (source.choice(paper),) + paper[at:]
        yield paper[:at] + ((other, 0, source.randrange(3)),) + paper[at:]
        place = source.randrange(len(paper))
        swapped = list(paper)
        swapped[at], swapped[place] = swapped[place], swapped[at]
        yield tuple(swapped)


class ChangedTests(unittest.TestCase):

    def test_changed_papers(self):
        source = random.Random(38)
        seen = set()
        for field in SOME:
            told = triangles(field)
            for menu in (told, told[::2], all_lays(field)[0]):
                for thing in changed(field, source, tried_paper(field, menu)):
                    found = refused(field, menu, thing)
                    self.assertEqual(found, wanted(field, menu, thing))
                    seen.add(found[0] if found.__class__ is tuple else "let by")
                    # Whoever wrote it: what is let by shows the count.
                    if found.__class__ is int:
                        self.assertEqual(found, count(field, menu))
        self.assertEqual(seen, {"let by", "shape", "row", "ahead", "number", "last"})

    def test_nine_points(self):
        source = random.Random(9)
        for field in (GRID_THREE, OUTER_NINE, ROUND_NINE, BOTH_OFF):
            paper = tried_paper(field, triangles(field))
            self.assertEqual(lets_count(field, triangles(field), paper), len(all_lays(field)))
            for at in sorted(source.sample(range(len(paper)), 12)):
                front, mark, number = paper[at]
                thing = paper[:at] + ((front, mark, number + 1),) + paper[at + 1:]
                self.assertEqual(refused(field, triangles(field), thing), ("number", at))

    def test_small_fields(self):
        for field in SMALL:
            for menu in (triangles(field), ()):
                self.assertEqual(lets_count(field, menu, tried_paper(field, menu)), count(field, menu))
