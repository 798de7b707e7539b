"""[44], [45]: the checker of bound papers."""

import itertools
import random
import unittest

from tests.samples import (
    BOTH_OFF, CORNERS, FIRST_OFF, GRID_THREE, LAST_OFF, MANY, NEEDLE, NINES, OUTER_NINE, ROUND_NINE, SPOT, SQUARE,
    TWO_COLUMNS, TWO_OFF, bowl, deep, no_points, spoiled)
from tests.trying import all_fronts, all_lays, lays_of_menu, many_weights, new_ties, tried_advances, weigh
from threelays.boundchecker import lets_bound
from threelays.errors import LayError, NoPaper
from threelays.fields import lower, upper
from threelays.ties import ties
from threelays.triangles import triangles

LOW, HIGH = SQUARE[:3], SQUARE[1:]
MENU = triangles(SQUARE)
WEIGHTS = (1, 2, 3, 4, 5, 6)
TOP = upper(SQUARE)
BOTTOM = lower(SQUARE)
RISING = ((0, 0), (1, 1))
# From the lower front by way of all four, 5 and then 5, or by way of the rising tie, 3 and then 6.
PAPER = ((TOP, 0), (SQUARE, 5), (RISING, 6), (BOTTOM, 9))
SOME = (SPOT, SQUARE, NEEDLE, LAST_OFF, bowl(5), TWO_COLUMNS, TWO_OFF) + NINES[13:24]


def refused(field, weights, menu, thing):
    """The word and the number with which a thing is refused; the bound told where it is let by."""
    try:
        told = lets_bound(field, weights, menu, thing)
    except NoPaper as error:
        return error.word, error.number
    assert told.__class__ is int, told
    return told


def is_plain_row(field, row):
    if row.__class__ is not tuple or len(row) != 2 or row[1].__class__ is not int:
        return False
    front = row[0]
    if front.__class__ is not tuple or any(point.__class__ is not tuple for point in front):
        return False
    if any(part.__class__ is not int for point in front for part in point):
        return False
    return front in all_fronts(field)


def weight_of(field, weights, some):
    order = ties(field)
    return sum(weights[order.index(tie)] for tie in some)


def wanted(field, weights, menu, thing):
    """What the document tells, word by word."""
    if thing.__class__ is not tuple or not thing:
        return "shape", -1
    for at, row in enumerate(thing):
        if not is_plain_row(field, row):
            return "row", at
    for at, row in enumerate(thing):
        if any(row[0] == other[0] for other in thing[:at]):
            return "twice", at
    numbers = dict(thing)
    if lower(field) not in numbers:
        return "lower", -1
    for at, (front, number) in enumerate(thing):
        if front == upper(field) and number != 0:
            return "upper", at
        came = [way[2] for way in tried_advances(menu, front, 0)]
        if any(other not in numbers for other in came):
            return "leads", at
        if any(number > numbers[other] + weight_of(field, weights, new_ties(front, other)) for other in came):
            return "bound", at
    start = lower(field)
    return weight_of(field, weights, zip(start, start[1:])) + numbers[start]


def tried_bounds(field, weights, menu, dead):
    """A bound paper by trying: each front that is come to, the least that lies ahead; dead where nothing leads on."""
    known = {}

    def go_on(front):
        if front not in known:
            ways = [way[2] for way in tried_advances(menu, front, 0)]
            known[front] = min(
                [go_on(came) + weight_of(field, weights, new_ties(front, came)) for came in ways],
                default=0 if front == upper(field) else dead)
        return known[front]

    go_on(lower(field))
    return tuple(known.items())


class LetByTests(unittest.TestCase):

    def test_told_ones(self):
        self.assertEqual(lets_bound(SQUARE, WEIGHTS, MENU, PAPER), 17)
        self.assertEqual(lets_bound(SQUARE, WEIGHTS, (LOW, HIGH), (PAPER[3][:1] + (10,),) + PAPER[:2]), 18)
        self.assertEqual(lets_bound(SPOT, (1, 2, 4), (SPOT,), ((lower(SPOT), 5), (upper(SPOT), 0))), 7)

    def test_lesser_numbers(self):
        for less in (1, 2, 9, 17, 100, MANY):
            self.assertEqual(lets_bound(SQUARE, WEIGHTS, MENU, PAPER[:3] + ((BOTTOM, 9 - less),)), 17 - less)
        low = ((TOP, 0), (SQUARE, -7), (RISING, -MANY), (BOTTOM, 3 - MANY))
        self.assertEqual(lets_bound(SQUARE, WEIGHTS, MENU, low), 11 - MANY)
        self.assertEqual(refused(SQUARE, WEIGHTS, MENU, low[:3] + ((BOTTOM, 4 - MANY),)), ("bound", 3))

    def test_rows_in_any_order(self):
        for order in itertools.permutations(PAPER):
            self.assertEqual(lets_bound(SQUARE, WEIGHTS, MENU, order), 17)

    def test_the_upper_front_need_not_be_there(self):
        for field in NINES:
            zeros = (0,) * len(ties(field))
            self.assertEqual(lets_bound(field, zeros, (), ((lower(field), 5),)), 5)
            self.assertEqual(lets_bound(field, zeros, (), ((lower(field), 5), (upper(field), 0))), 5)
            self.assertEqual(refused(field, zeros, (), ((lower(field), 5), (upper(field), 1))), ("upper", 1))
        self.assertEqual(lets_bound(SQUARE, WEIGHTS, (LOW,), ((BOTTOM, 105), (SQUARE, 100))), 113)
        self.assertEqual(refused(SQUARE, WEIGHTS, (LOW,), ((BOTTOM, 106), (SQUARE, 100))), ("bound", 0))

    def test_fronts_without_an_advance_may_have_any_number(self):
        for number in (MANY, -MANY, 0, 1, -1, 2000000):
            # No triangle of this menu moves the rising tie up.
            self.assertEqual(lets_bound(SQUARE, WEIGHTS, MENU[:1] + MENU[3:], PAPER[:2] + ((RISING, number),) + (
                (BOTTOM, 10),)), 18)
            self.assertEqual(lets_bound(SQUARE, WEIGHTS, (), ((BOTTOM, number),)), 8 + number)

    def test_rows_that_nothing_leads_to(self):
        menu = (LOW, HIGH)
        for thing in (PAPER, PAPER[::-1], PAPER[:2] + ((RISING, -3), (BOTTOM, 10))):
            self.assertEqual(lets_bound(SQUARE, WEIGHTS, menu, thing), wanted(SQUARE, WEIGHTS, menu, thing))
        for field in SOME[1:]:
            weights = many_weights(44, field)[-1]
            menu = all_lays(field)[0]
            paper = tried_bounds(field, weights, menu, 0)
            held = dict(paper)
            more = tuple((front, -MANY) for front in all_fronts(field) if front not in held)
            for thing in (paper + more, more + paper):
                self.assertEqual(refused(field, weights, menu, thing), wanted(field, weights, menu, thing))

    def test_papers_by_trying(self):
        source = random.Random(45)
        for at, field in enumerate(NINES):
            told = triangles(field)
            weights = source.choice(many_weights(at, field))
            for menu in (told, told[1:], all_lays(field)[-1]):
                paper = list(tried_bounds(field, weights, menu, 10 ** 9))
                source.shuffle(paper)
                lays = lays_of_menu(all_lays(field), menu)
                found = lets_bound(field, weights, menu, tuple(paper))
                if lays:
                    self.assertEqual(found, min(weigh(field, weights, lay) for lay in lays))

    def test_by_names(self):
        self.assertEqual(lets_bound(thing=PAPER, menu=MENU, weights=WEIGHTS, field=SQUARE), 17)


class RefusedTests(unittest.TestCase):

    def test_the_error(self):
        with self.assertRaises(LayError) as caught:
            lets_bound(SQUARE, WEIGHTS, MENU, ())
        self.assertIs(caught.exception.__class__, NoPaper)
        self.assertEqual((caught.exception.word, caught.exception.number), ("shape", -1))

    def test_shape(self):
        for thing in ((), [], list(PAPER), None, 0, 17, True, False, "", "ab", dict(PAPER), deep(list, PAPER, 14)):
            self.assertEqual(refused(SQUARE, WEIGHTS, MENU, thing), ("shape", -1))

    def test_rows(self):
        for at in range(len(PAPER)):
            front, number = PAPER[at]
            wrong = [
                None, 0, (), [], list(PAPER[at]), PAPER[at][:1], PAPER[at] + (0,), (front, None), (front, str(number)),
                (front, (number,)), (front, [number]), (front, True), (front, False), (list(front), number),
                (front[::-1], number), (front[1:], number), (front[:-1], number), (((0, 0), (0, 1), (2, 2)), number),
                ((), number), (front[:1], number), (MENU, number), (number, front), ((front, number),),
                (tuple(list(point) for point in front), number), (((False, False),) + front[1:], number),
                (front[:-1] + ((True, True),), number)]
            for row in wrong:
                thing = PAPER[:at] + (row,) + PAPER[at + 1:]
                self.assertEqual(refused(SQUARE, WEIGHTS, MENU, thing), ("row", at), row)

    def test_fronts_that_are_none(self):
        zeros = (0,) * len(ties(GRID_THREE))
        thing = ((lower(GRID_THREE), 0), (((0, 0), (2, 2)), 0))
        self.assertEqual(refused(GRID_THREE, zeros, (), thing), ("row", 1))
        self.assertEqual(refused(GRID_THREE, zeros, (), thing[::-1]), ("row", 0))

    def test_twice(self):
        for at in range(len(PAPER)):
            for other in (PAPER[at], (PAPER[at][0], 1), (PAPER[at][0], -3)):
                self.assertEqual(refused(SQUARE, WEIGHTS, MENU, PAPER + (other,)), ("twice", 4))
                self.assertEqual(refused(SQUARE, WEIGHTS, MENU, (other,) + PAPER), ("twice", at + 1))
                self.assertEqual(refused(SQUARE, WEIGHTS, MENU, (other, other) + PAPER), ("twice", 1))

    def test_lower(self):
        self.assertEqual(refused(SQUARE, WEIGHTS, MENU, PAPER[:3]), ("lower", -1))
        self.assertEqual(refused(SQUARE, WEIGHTS, MENU, PAPER[:1]), ("lower", -1))
        self.assertEqual(refused(SQUARE, WEIGHTS, (), ((SQUARE, 0),)), ("lower", -1))

    def test_upper(self):
        for number in (1, -1, 9, MANY, -MANY):
            self.assertEqual(refused(SQUARE, WEIGHTS, MENU, ((TOP, number),) + PAPER[1:]), ("upper", 0))
            self.assertEqual(refused(SQUARE, WEIGHTS, MENU, PAPER[1:2] + ((TOP, 9),) + PAPER[2:]), ("upper", 1))

    def test_leads(self):
        self.assertEqual(refused(SQUARE, WEIGHTS, MENU, PAPER[1:]), ("leads", 0))
        self.assertEqual(refused(SQUARE, WEIGHTS, MENU, PAPER[:1] + PAPER[2:]), ("leads", 2))
        self.assertEqual(refused(SQUARE, WEIGHTS, MENU, PAPER[:2] + PAPER[3:]), ("leads", 2))
        self.assertEqual(refused(SQUARE, WEIGHTS, MENU, PAPER[3:]), ("leads", 0))
        self.assertEqual(refused(SQUARE, WEIGHTS, MENU, ((BOTTOM, -MANY),)), ("leads", 0))

    def test_marks_are_not_looked_at(self):
        # Behind an advance at place 1 one at place 0 that puts in would not be let by the mark; here it leads.
        field = bowl(5)
        menu = triangles(field)
        weights = (0,) * len(ties(field))
        paper = tried_bounds(field, weights, menu, 0)
        self.assertEqual(len(paper), 8)
        for at in range(len(paper)):
            thing = paper[:at] + paper[at + 1:]
            self.assertEqual(refused(field, weights, menu, thing), wanted(field, weights, menu, thing))
            self.assertIn(refused(field, weights, menu, thing)[0], ("leads", "lower"))

    def test_bound(self):
        self.assertEqual(refused(SQUARE, WEIGHTS, MENU, PAPER[:3] + ((BOTTOM, 10),)), ("bound", 3))
        self.assertEqual(refused(SQUARE, WEIGHTS, MENU, ((BOTTOM, 10),) + PAPER[:3]), ("bound", 0))
        for at in (1, 2):
            front, number = PAPER[at]
            thing = PAPER[:at] + ((front, number + 1),) + PAPER[at + 1:]
            self.assertEqual(refused(SQUARE, WEIGHTS, MENU, thing), ("bound", at))
        self.assertEqual(refused(SQUARE, WEIGHTS, MENU, PAPER[:2] + ((RISING, 5), (BOTTOM, 9))), ("bound", 3))

    def test_one_number_one_too_great(self):
        source = random.Random(46)
        for field in SOME + (GRID_THREE, OUTER_NINE, BOTH_OFF):
            weights = many_weights(46, field)[-1]
            menu = triangles(field)
            paper = tried_bounds(field, weights, menu, 0)
            for at in source.sample(range(len(paper)), min(12, len(paper))):
                front, number = paper[at]
                thing = paper[:at] + ((front, number + 1),) + paper[at + 1:]
                word = "upper" if front == upper(field) else "bound"
                self.assertEqual(refused(field, weights, menu, thing), (word, at))

    def test_two_words_due(self):
        # A row that is none goes ahead of a front that comes twice ahead of it, and this ahead of all else.
        self.assertEqual(refused(SQUARE, WEIGHTS, MENU, (PAPER[0], PAPER[0], None)), ("row", 2))
        self.assertEqual(refused(SQUARE, WEIGHTS, MENU, (None, None)), ("row", 0))
        self.assertEqual(refused(SQUARE, WEIGHTS, MENU, [None]), ("shape", -1))
        self.assertEqual(refused(SQUARE, WEIGHTS, MENU, ((TOP, 1), (TOP, 1))), ("twice", 1))
        self.assertEqual(refused(SQUARE, WEIGHTS, MENU, ((TOP, 1), (SQUARE, 5))), ("lower", -1))
        self.assertEqual(refused(SQUARE, WEIGHTS, MENU, ((SQUARE, 5),)), ("lower", -1))
        # Row by row: what is wrong in the row ahead goes first, whatever its word.
        self.assertEqual(refused(SQUARE, WEIGHTS, MENU, ((BOTTOM, 9), (TOP, 1))), ("leads", 0))
        self.assertEqual(refused(SQUARE, WEIGHTS, MENU, ((TOP, 1), (BOTTOM, 9))), ("upper", 0))
        self.assertEqual(refused(SQUARE, WEIGHTS, MENU, ((SQUARE, 6), (BOTTOM, 9), (TOP, 0))), ("bound", 0))
        # In one row what leads nowhere goes ahead of its number.
        self.assertEqual(refused(SQUARE, WEIGHTS, MENU, ((BOTTOM, MANY), (SQUARE, 5), (TOP, 0))), ("leads", 0))

    def test_spoiled(self):
        for thing in spoiled(PAPER):
            self.assertEqual(refused(SQUARE, WEIGHTS, MENU, thing), wanted(SQUARE, WEIGHTS, MENU, thing))

    def test_any_thing(self):
        things = [deep(tuple, PAPER, 14), (PAPER,), (list(PAPER[0]),), PAPER[0], ((),), (((), ()),), MENU,
                  PAPER + (deep(tuple, 0, 17),), tuple(list(row) for row in PAPER), (RISING,) * 800]
        for thing in no_points() + things:
            self.assertEqual(refused(SQUARE, WEIGHTS, MENU, thing), wanted(SQUARE, WEIGHTS, MENU, thing))

    def test_another_menu_field_or_other_weights(self):
        self.assertEqual(refused(SQUARE, WEIGHTS, MENU, PAPER[:2] + ((RISING, 70), (BOTTOM, 9))), ("bound", 2))
        self.assertEqual(refused(SQUARE, WEIGHTS, (LOW,), PAPER), 17)
        self.assertEqual(refused(SQUARE, WEIGHTS, (LOW, HIGH), PAPER[:2] + ((BOTTOM, 10),)), 18)
        self.assertEqual(refused(SQUARE, WEIGHTS, MENU, PAPER[:2] + ((BOTTOM, 10),)), ("leads", 2))
        self.assertEqual(refused(SQUARE, (1, 2, 2, 4, 5, 6), MENU, PAPER), ("bound", 3))
        self.assertEqual(refused(SQUARE, (1, 2, 3, 4, 4, 6), MENU, PAPER), ("bound", 1))
        self.assertEqual(refused(SQUARE, (1, 5, 3, 4, 5, 1006), MENU, PAPER), 1020)
        self.assertEqual(refused(SQUARE, (0,) * 6, MENU, PAPER), ("bound", 1))
        self.assertEqual(refused(CORNERS, WEIGHTS, triangles(CORNERS), PAPER), ("row", 0))


def changed(field, source, paper):
    """A paper with one number, front or row otherwise, one less or more, two changed for one another."""
    fronts = all_fronts(field)
    for at in sorted(source.sample(range(len(paper)), min(8, len(paper)))):
        front, number = paper[at]
        other = source.choice(fronts)
        yield paper[:at] + paper[at + 1:]
        yield paper[at:] + paper[:at]
        yield paper[:at + 1]
        yield paper[:at] + ((front, number + source.choice((1, -1, 2))),) + paper[at + 1:]
        yield paper[:at] + ((other, number),) + paper[at + 1:]
        yield paper[:at] + (source.choice(paper),) + paper[at:]
        yield paper[:at] + ((other, source.randrange(-3, 3)),) + paper[at:]
        yield paper[:at] + (list(paper[at]),) + paper[at + 1:]


class ChangedTests(unittest.TestCase):

    def test_changed_papers(self):
        source = random.Random(47)
        seen = set()
        for at, field in enumerate(SOME):
            told = triangles(field)
            for menu in (told, told[::2], all_lays(field)[0]):
                weights = source.choice(many_weights(at, field))
                lays = lays_of_menu(all_lays(field), menu)
                for thing in changed(field, source, tried_bounds(field, weights, menu, source.choice((0, -5, MANY)))):
                    found = refused(field, weights, menu, thing)
                    self.assertEqual(found, wanted(field, weights, menu, thing))
                    seen.add(found[0] if found.__class__ is tuple else "let by")
                    # Whoever wrote it: no lay of the menu weighs less than the bound.
                    if found.__class__ is int:
                        self.assertTrue(all(weigh(field, weights, lay) >= found for lay in lays))
        self.assertEqual(seen, {"let by", "shape", "row", "twice", "lower", "upper", "leads", "bound"})

    def test_lines_rounds_and_grids_of_nine(self):
        for field in (LAST_OFF, FIRST_OFF, ROUND_NINE, GRID_THREE, OUTER_NINE, TWO_OFF):
            weights = many_weights(48, field)[4]
            paper = tried_bounds(field, weights, triangles(field), 0)
            wanted_bound = min(weigh(field, weights, lay) for lay in all_lays(field))
            self.assertEqual(lets_bound(field, weights, triangles(field), paper[::-1]), wanted_bound)
