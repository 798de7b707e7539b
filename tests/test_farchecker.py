"""[64], [65]: the checker of far papers."""

import itertools
import random
import unittest

from tests.samples import MANY, SPOT, SQUARE, bowl, deep, no_points, spoiled
from tests.test_distances import GRID_SEVEN, GRID_SIX, LINE_SEVEN, SEVENS, SMALL_ONES, apart
from tests.test_laychecker import wanted as wanted_of_lay
from tests.trying import all_lays, ties_in, tried_turn
from threelays.errors import LayError, NoPaper
from threelays.farchecker import lets_far

LOW, HIGH = SQUARE[:3], SQUARE[1:]
UP, DOWN = (SQUARE[0], SQUARE[1], SQUARE[3]), (SQUARE[0], SQUARE[2], SQUARE[3])
ONE, OTHER = (LOW, HIGH), (UP, DOWN)
PAPER = (1, ((OTHER, 0),))
PENTAGON = bowl(5)
# Two lays of five on a round that have no tie but the rim's in common are two turns apart.
FAR_ONE = all_lays(PENTAGON)[0]
FAR_OTHER = [lay for lay, number in apart(PENTAGON, FAR_ONE).items() if number == 2][0]


def tried_far_paper(field, one, other, more=0):
    """A far paper with all lays that are nearer to the other than the one is, and some more."""
    told = apart(field, other)
    far = told[one]
    return far, tuple((lay, number) for lay, number in told.items() if number < far + more and lay != one)


def refused(field, one, other, thing):
    """The word and the number with which a thing is refused; the number told where it is let by."""
    try:
        told = lets_far(field, one, other, thing)
    except NoPaper as error:
        return error.word, error.number
    assert told.__class__ is int, told
    return told


def turned_lays(field, lay):
    found = [tried_turn(field, lay, tie) for tie in ties_in(lay)]
    return [pair[0] for pair in found if pair is not None]


def from_nought(thing):
    return thing.__class__ is int and thing >= 0


def wanted(field, one, other, thing):
    """What the document tells, word by word."""
    if thing.__class__ is not tuple or len(thing) != 2 or not from_nought(thing[0]) or thing[1].__class__ is not tuple:
        return "shape", -1
    far, rows = thing
    for at, row in enumerate(rows):
        if row.__class__ is not tuple or len(row) != 2 or wanted_of_lay(field, row[0]) or not from_nought(row[1]):
            return "row", at
    for at, row in enumerate(rows):
        if row[0] in [ahead[0] for ahead in rows[:at]]:
            return "twice", at
    if far == 0:
        return 0
    if (other, 0) not in rows:
        return "goal", -1
    for at, row in enumerate(rows):
        if row[0] == one:
            return "there", at
    told = dict(rows)
    for at, (lay, number) in enumerate(rows):
        if number < far - 1:
            for made in turned_lays(field, lay):
                if made not in told or told[made] > number + 1:
                    return "leads", at
    return far


class LetByTests(unittest.TestCase):

    def test_told_ones(self):
        self.assertEqual(lets_far(SQUARE, ONE, OTHER, PAPER), 1)
        self.assertEqual(lets_far(SQUARE, OTHER, ONE, (1, ((ONE, 0),))), 1)
        self.assertEqual(lets_far(SPOT, (SPOT,), (SPOT,), (0, ())), 0)
        self.assertEqual(lets_far(PENTAGON, FAR_ONE, FAR_OTHER, tried_far_paper(PENTAGON, FAR_ONE, FAR_OTHER)), 2)

    def test_far_of_nought(self):
        # Nothing more is asked than that the rows are rows, each with a lay of its own.
        for one, other in itertools.product((ONE, OTHER), repeat=2):
            for rows in ((), ((ONE, 0),), ((OTHER, 5),), ((ONE, 7), (OTHER, MANY)), ((OTHER, 0), (ONE, 0))):
                self.assertEqual(lets_far(SQUARE, one, other, (0, rows)), 0)
        self.assertEqual(refused(SQUARE, ONE, OTHER, (0, ((ONE, 0), (ONE, 1)))), ("twice", 1))
        self.assertEqual(refused(SQUARE, ONE, OTHER, (0, ((ONE, -1),))), ("row", 0))

    def test_lays_that_are_the_same(self):
        self.assertEqual(refused(SQUARE, ONE, ONE, (1, ((ONE, 0),))), ("there", 0))
        self.assertEqual(refused(SQUARE, ONE, ONE, (1, ())), ("goal", -1))
        self.assertEqual(refused(SQUARE, ONE, ONE, (0, ())), 0)

    def test_small_fields(self):
        seen = set()
        for field in SMALL_ONES:
            lays = all_lays(field)
            for one, other in itertools.product(lays[:5], lays[-5:]):
                far = apart(field, one)[other]
                seen.add(far)
                self.assertEqual(lets_far(field, one, other, tried_far_paper(field, one, other)), far)
                # With rows that nothing wants.
                self.assertEqual(lets_far(field, one, other, tried_far_paper(field, one, other, 1)), far)
                self.assertEqual(lets_far(field, one, other, tried_far_paper(field, one, other, 9)), far)
        self.assertTrue({0, 1, 2, 3, 4} <= seen)

    def test_seven_points(self):
        for field in SEVENS:
            lays = all_lays(field)
            one, other = lays[0], lays[-1]
            far, rows = tried_far_paper(field, one, other)
            self.assertEqual(lets_far(field, one, other, (far, rows)), far)
            # A paper may show less than there is.
            for less in range(far):
                self.assertEqual(lets_far(field, one, other, (less, rows)), less)
            # In any order.
            for seed in range(3):
                order = list(rows)
                random.Random(seed).shuffle(order)
                self.assertEqual(lets_far(field, one, other, (far, tuple(order))), far)

    def test_rows_of_greater_numbers_may_lead_anywhere(self):
        field, one, other = PENTAGON, FAR_ONE, FAR_OTHER
        far, rows = tried_far_paper(field, one, other)
        left = [lay for lay in all_lays(field) if lay not in dict(rows) and lay != one]
        self.assertTrue(left)
        for lay in left:
            for number in (far - 1, far, 1000, MANY):
                self.assertEqual(lets_far(field, one, other, (far, rows + ((lay, number),))), far)

    def test_numbers_that_are_less_than_they_might_be(self):
        # A number may fall short, as long as no turn makes one that is more than one above it.
        field, one, other = PENTAGON, FAR_ONE, FAR_OTHER
        near = turned_lays(field, other)
        rows = ((other, 0),) + tuple((lay, 1) for lay in near)
        self.assertEqual(lets_far(field, one, other, (2, rows)), 2)
        # With 0, too, they are below far - 1, and what is made of them has to be there.
        short = (2, ((other, 0),) + tuple((lay, 0) for lay in near))
        self.assertEqual(refused(field, one, other, short), ("leads", 1))
        self.assertEqual(wanted(field, one, other, short), ("leads", 1))
        self.assertEqual(lets_far(field, one, other, (1, short[1])), 1)

    def test_by_names(self):
        self.assertEqual(lets_far(thing=PAPER, other=OTHER, one=ONE, field=SQUARE), 1)


class RefusedTests(unittest.TestCase):

    def test_the_error(self):
        with self.assertRaises(LayError) as caught:
            lets_far(SQUARE, ONE, OTHER, (1, ()))
        self.assertIs(caught.exception.__class__, NoPaper)
        self.assertEqual(vars(caught.exception), {"word": "goal", "number": -1})

    def test_shape(self):
        row = (OTHER, 0)
        for thing in (None, True, 1, "", (), [], (1,), ((row,),), [1, (row,)], (1, [row]), (1, (row,), 0), (-1, (row,)),
                      (True, (row,)), (False, ()), (None, (row,)), ("1", (row,)), ((1,), (row,)), (1, None), (1, 0),
                      (-MANY, ()), ((row,), 1), (1, row, row)):
            self.assertEqual(refused(SQUARE, ONE, OTHER, thing), ("shape", -1), thing)

    def test_row(self):
        right = (OTHER, 0)
        for row in (None, (), [], (OTHER,), [OTHER, 0], (OTHER, 0, 0), (OTHER, -1), (OTHER, False), (OTHER, True),
                    (OTHER, None), (OTHER, "0"), (OTHER, (0,)), (list(OTHER), 0), (OTHER[::-1], 0), (OTHER[:1], 0),
                    ((), 0), (0, OTHER), OTHER, (OTHER + OTHER, 0), ((LOW, UP), 0), (((False, 0), (0, 1), (1, 1)), 0),
                    ((((False, 0), (0, 1), (1, 1)), DOWN), 0), ((list(UP), DOWN), 0), (OTHER, -MANY)):
            self.assertEqual(refused(SQUARE, ONE, OTHER, (1, (row,))), ("row", 0), row)
            self.assertEqual(refused(SQUARE, ONE, OTHER, (1, (right, row))), ("row", 1), row)
            self.assertEqual(refused(SQUARE, ONE, OTHER, (0, (right, right, row, row))), ("row", 2), row)

    def test_twice(self):
        self.assertEqual(refused(SQUARE, ONE, OTHER, (1, ((OTHER, 0), (OTHER, 0)))), ("twice", 1))
        self.assertEqual(refused(SQUARE, ONE, OTHER, (1, ((OTHER, 0), (ONE, 3), (ONE, 4), (OTHER, 1)))), ("twice", 2))

    def test_goal(self):
        self.assertEqual(refused(SQUARE, ONE, OTHER, (1, ())), ("goal", -1))
        self.assertEqual(refused(SQUARE, ONE, OTHER, (1, ((OTHER, 1),))), ("goal", -1))
        self.assertEqual(refused(SQUARE, ONE, OTHER, (MANY, ((OTHER, MANY),))), ("goal", -1))

    def test_there(self):
        self.assertEqual(refused(SQUARE, ONE, OTHER, (1, ((OTHER, 0), (ONE, 1)))), ("there", 1))
        self.assertEqual(refused(SQUARE, ONE, OTHER, (1, ((ONE, 9), (OTHER, 0)))), ("there", 0))

    def test_leads(self):
        self.assertEqual(refused(SQUARE, ONE, OTHER, (2, ((OTHER, 0),))), ("leads", 0))
        field, one, other = PENTAGON, FAR_ONE, FAR_OTHER
        far, rows = tried_far_paper(field, one, other)
        # A number one too great, a lay left out.
        for at in range(1, len(rows)):
            lay, number = rows[at]
            thing = (far, rows[:at] + ((lay, number + 1),) + rows[at + 1:])
            self.assertEqual(refused(field, one, other, thing), ("leads", 0))
            self.assertEqual(refused(field, one, other, (far, rows[:at] + rows[at + 1:])), ("leads", 0))
            self.assertEqual(refused(field, one, other, (far, rows[1:at + 1] + rows[:1])), wanted(
                field, one, other, (far, rows[1:at + 1] + rows[:1])))

    def test_far_one_too_great(self):
        for field in SMALL_ONES + (GRID_SEVEN, LINE_SEVEN):
            lays = all_lays(field)
            for one, other in itertools.product(lays[:3], lays[-3:]):
                if one != other:
                    far, rows = tried_far_paper(field, one, other, 9)
                    for more in (1, 2, MANY):
                        self.assertEqual(refused(field, one, other, (far + more, rows))[0], "leads")

    def test_two_words_due(self):
        for thing, told in (
                ((True, (None,)), ("shape", -1)), ((1, (None, (OTHER, 0), (OTHER, 0))), ("row", 0)),
                # A row that is none goes ahead of one that is twice, though this one comes first.
                ((1, ((OTHER, 0), (OTHER, 0), None)), ("row", 2)),
                ((1, ((ONE, 0), (ONE, 0))), ("twice", 1)), ((1, ((ONE, 0),)), ("goal", -1)),
                ((5, ((OTHER, 0), (ONE, 1))), ("there", 1)), ((5, ((OTHER, 1), (ONE, 1))), ("goal", -1))):
            self.assertEqual(refused(SQUARE, ONE, OTHER, thing), told)
            self.assertEqual(wanted(SQUARE, ONE, OTHER, thing), told)

    def test_spoiled(self):
        for thing in spoiled(PAPER) + spoiled((0, ((ONE, 1), (OTHER, 0)))):
            self.assertEqual(refused(SQUARE, ONE, OTHER, thing), wanted(SQUARE, ONE, OTHER, thing))

    def test_truths(self):
        # True is no 1 and False no 0: as far, as a row's number, as a coordinate.
        self.assertEqual(refused(SQUARE, ONE, OTHER, (True, ((OTHER, 0),))), ("shape", -1))
        self.assertEqual(refused(SQUARE, ONE, OTHER, (False, ())), ("shape", -1))
        self.assertEqual(refused(SQUARE, ONE, OTHER, (1, ((OTHER, False),))), ("row", 0))
        self.assertEqual(refused(SQUARE, ONE, OTHER, (0, ((OTHER, True),))), ("row", 0))
        truths = ((((False, 0), (0, 1), (True, True)), DOWN), 0)
        self.assertEqual(refused(SQUARE, ONE, OTHER, (1, (truths,))), ("row", 0))

    def test_any_thing(self):
        things = [deep(tuple, PAPER, 12), deep(list, PAPER, 12), (1, no_points()), (PAPER,), (1, PAPER), (1, (PAPER,))]
        things += [(1, tuple(no_points()[:20])), (1, ((OTHER, 0),) * 300), (0, ((),) * 4000)]
        for thing in no_points() + things:
            self.assertEqual(refused(SQUARE, ONE, OTHER, thing), wanted(SQUARE, ONE, OTHER, thing))


def changed(field, source, paper):
    """A paper with far, one number or one lay otherwise, one row less or more, in another order."""
    far, rows = paper
    lays = all_lays(field)
    yield far + 1, rows
    yield max(0, far - 1), rows
    yield far, rows[::-1]
    for at in sorted(source.sample(range(len(rows)), min(5, len(rows)))):
        lay, number = rows[at]
        for other in (number + 1, number - 1, 0, far):
            yield far, rows[:at] + ((lay, other),) + rows[at + 1:]
        yield far, rows[:at] + rows[at + 1:]
        yield far, rows[:at] + ((source.choice(lays), number),) + rows[at + 1:]
        yield far, rows[:at] + ((source.choice(lays), source.randrange(far + 2)),) + rows[at:]


class ChangedTests(unittest.TestCase):

    def test_changed_papers(self):
        source = random.Random(65)
        seen = set()
        for field in SMALL_ONES + (GRID_SIX, bowl(6)) + SEVENS:
            lays = all_lays(field)
            for step in range(3):
                one, other = source.choice(lays), source.choice(lays)
                far = apart(field, one)[other]
                for thing in changed(field, source, tried_far_paper(field, one, other, step)):
                    found = refused(field, one, other, thing)
                    self.assertEqual(found, wanted(field, one, other, thing))
                    seen.add(found[0] if found.__class__ is tuple else "let by")
                    # Whoever wrote it: fewer turns than far are never enough.
                    if found.__class__ is int:
                        self.assertLessEqual(found, far)
        self.assertEqual(seen, {"let by", "row", "twice", "goal", "there", "leads"})
