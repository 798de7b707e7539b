"""[77], [78]: the checker of web papers."""

import random
import unittest

from tests.samples import MANY, SPOT, SQUARE, bowl, deep, no_points, spoiled
from tests.shapes import between
from tests.webtrying import (
    GRID_SIX, HUB_SIX, LINE_SIX, SIXES, meets, times_rows, tried_web_paper, tried_web_row, with_rows)
from threelays.errors import LayError, NoPaper
from threelays.ties import ties
from threelays.webchecker import lets_web

A, B, C = ties(SPOT)
NONE = ((), (1,), ("none",))
PAPER = (NONE, ((A,), (1, 1), ("split", A, 0, 0)), ((B,), (1, 1), ("split", B, 0, 0)),
         ((A, B), (1, 2, 1), ("beside", 1, 2)), ((A, B, C), (1, 3, 3, 1), ("split", C, 3, 3)))
RISING, FALLING = ((0, 0), (1, 1)), ((0, 1), (1, 0))


def refused(field, thing):
    """The word and the number with which a thing is refused; the numbers told where it is let by."""
    try:
        told = lets_web(field, thing)
    except NoPaper as error:
        return error.word, error.number
    assert told.__class__ is tuple, told
    return told


def is_plain_tie(field, thing):
    if thing.__class__ is not tuple or len(thing) != 2:
        return False
    for point in thing:
        if point.__class__ is not tuple or len(point) != 2 or any(part.__class__ is not int for part in point):
            return False
    return set(thing) <= set(field) and thing[0] < thing[1] and between(*thing).isdisjoint(field)


def is_plain_row(field, row, at):
    if row.__class__ is not tuple or len(row) != 3 or any(part.__class__ is not tuple for part in row):
        return False
    some, numbers, rule = row
    if not all(is_plain_tie(field, tie) for tie in some) or list(some) != sorted(set(some)):
        return False
    if not numbers or any(number.__class__ is not int for number in numbers):
        return False
    if not rule or rule[0].__class__ is not str:
        return False
    if (rule[0], len(rule)) not in (("none", 1), ("split", 4), ("beside", 3)):
        return False
    if rule[0] == "split" and (not is_plain_tie(field, rule[1]) or rule[1] not in some):
        return False
    return all(number.__class__ is int and number in range(at) for number in rule[1 + (rule[0] == "split"):])


def wanted(field, thing):
    """What the document tells, word by word."""
    if thing.__class__ is not tuple or not thing:
        return "shape", -1
    for at, row in enumerate(thing):
        if not is_plain_row(field, row, at):
            return "row", at
    for at, (some, numbers, rule) in enumerate(thing):
        held = set(some)
        if rule[0] == "none":
            right, due = not held, (1,)
        else:
            (one, of_one, _), (other, of_other, _) = thing[rule[-2]], thing[rule[-1]]
            if rule[0] == "split":
                rest = held - {rule[1]}
                right = set(one) == rest and set(other) == {tie for tie in rest if not meets(tie, rule[1])}
                due = with_rows(of_one, of_other)
            else:
                right = not set(one) & set(other) and set(one) | set(other) == held and not any(
                    meets(own, tie) for own in one for tie in other)
                due = times_rows(of_one, of_other)
        if not right:
            return "ties", at
        if numbers != due:
            return "numbers", at
    if thing[-1][0] != ties(field):
        return "last", len(thing) - 1
    return thing[-1][1]


class LetByTests(unittest.TestCase):

    def test_told_ones(self):
        self.assertEqual(lets_web(SPOT, PAPER), (1, 3, 3, 1))
        self.assertEqual(wanted(SPOT, PAPER), (1, 3, 3, 1))

    def test_papers_of_many_kinds(self):
        for field in SIXES:
            for seed in range(3):
                paper = tried_web_paper(field, seed)
                self.assertEqual(lets_web(field, paper), tried_web_row(field))
                self.assertEqual(wanted(field, paper), tried_web_row(field))

    def test_rows_that_nothing_wants(self):
        more = (NONE, NONE, ((C,), (1, 1), ("split", C, 0, 1)), ((A, C), (1, 2, 1), ("split", A, 2, 2)))
        moved = tuple((some, numbers, rule[:-2] + tuple(number + 4 for number in rule[-2:]) if rule[1:] else rule)
                      for some, numbers, rule in PAPER)
        self.assertEqual(lets_web(SPOT, more + moved), (1, 3, 3, 1))
        self.assertEqual(lets_web(SPOT, PAPER[:4] + (NONE, ((), (1,), ("beside", 4, 4))) + PAPER[4:]), (1, 3, 3, 1))
        self.assertEqual(lets_web(SPOT, PAPER + PAPER[-1:]), (1, 3, 3, 1))

    def test_beside_nothing(self):
        # () and some ties are some ties together; () and () are ().
        for thing in ((NONE, ((), (1,), ("beside", 0, 0))), PAPER[:2] + (((A,), (1, 1), ("beside", 0, 1)),),
                      PAPER[:2] + (((A,), (1, 1), ("beside", 1, 0)),)):
            self.assertEqual(refused(SPOT, thing), ("last", len(thing) - 1))
        self.assertEqual(lets_web(SPOT, PAPER + ((PAPER[-1][0], PAPER[-1][1], ("beside", 4, 0)),)), (1, 3, 3, 1))

    def test_ties_that_cross(self):
        one = ((RISING,), (1, 1), ("split", RISING, 0, 0))
        other = ((FALLING,), (1, 1), ("split", FALLING, 0, 0))
        both = (RISING, FALLING)
        right = (NONE, one, other, (both, (1, 2), ("split", RISING, 2, 0)))
        self.assertEqual(refused(SQUARE, right), ("last", 3))
        self.assertEqual(refused(SQUARE, right[:3] + ((both, (1, 2), ("split", FALLING, 1, 0)),)), ("last", 3))
        # They cross, so they do not stand beside one another, nor is the one left where the other is taken.
        self.assertEqual(refused(SQUARE, right[:3] + ((both, (1, 2, 1), ("beside", 1, 2)),)), ("ties", 3))
        self.assertEqual(refused(SQUARE, right[:3] + ((both, (1, 2, 1), ("split", RISING, 2, 2)),)), ("ties", 3))

    def test_by_names(self):
        self.assertEqual(lets_web(thing=PAPER, field=SPOT), (1, 3, 3, 1))


class RefusedTests(unittest.TestCase):

    def test_the_error(self):
        with self.assertRaises(LayError) as caught:
            lets_web(SPOT, PAPER[:4])
        self.assertIs(caught.exception.__class__, NoPaper)
        self.assertEqual(vars(caught.exception), {"word": "last", "number": 3})

    def test_shape(self):
        for thing in (None, True, 0, "web", (), [], list(PAPER)):
            self.assertEqual(refused(SPOT, thing), ("shape", -1))

    def test_row(self):
        for row in (
                None, (), [], list(NONE), NONE[:2], NONE + (0,), ([], (1,), ("none",)), ((), [1], ("none",)),
                ((), (1,), ["none"]), ((), (), ("none",)), ((), (True,), ("none",)), ((), (1, False), ("none",)),
                ((), (1, None), ("none",)), ((), 1, ("none",)), ((), (1,), "none"), ((), (1,), ("some",)),
                ((), (1,), ("none", 0)), ((), (1,), ()), ((), (1,), (None,)), ((), (1,), (("none",),)),
                ((), (1,), ([],)), ((), (1,), ("beside", 0)), ((), (1,), ("beside", 0, 0, 0)),
                ((), (1,), ("beside", -1, 0)), ((), (1,), ("beside", 0, 1)), ((), (1,), ("beside", False, 0)),
                ((), (1,), ("beside", 0, False)), ((), (1,), ("beside", 0, None)), ((), (1,), ("beside", 0, MANY)),
                ((A,), (1, 1), ("split", A, 0)), ((A,), (1, 1), ("split", A, 0, 0, 0)), ((A,), (1, 1), ("split", 0, 0)),
                ((A,), (1, 1), ("split", B, 0, 0)), ((A,), (1, 1), ("split", list(A), 0, 0)),
                ((A,), (1, 1), ("split", None, 0, 0)), ((A,), (1, 1), ("split", A, 0, 1)),
                ((A,), (1, 1), ("split", A, -1, 0)), ((A,), (1, 1), ("split", A, 0, False)),
                ((A,), (1, 1), ("split", ((False, 0), (0, 1)), 0, 0)),
                ((A,), (1, 1), ("split", ((0, 0), (0, True)), 0, 0)), (A, (1, 1), ("split", A, 0, 0)),
                (((False, 0), (0, 1)), (1, 1), ("none",)), ((((False, 0), (0, 1)),), (1, 1), ("none",)),
                ((A, A), (1, 2, 1), ("none",)), ((B, A), (1, 2, 1), ("none",)), ((A[::-1],), (1, 1), ("none",)),
                ((list(A),), (1, 1), ("none",)), ((((0, 0), (5, 5)),), (1, 1), ("none",)), ((SPOT,), (1, 1), ("none",)),
                ([A], (1, 1), ("split", A, 0, 0)), ((A, None), (1, 1), ("split", A, 0, 0))):
            self.assertEqual(refused(SPOT, (NONE, row)), ("row", 1), row)
            self.assertEqual(wanted(SPOT, (NONE, row)), ("row", 1), row)
            self.assertEqual(refused(SPOT, (NONE, row) + PAPER), ("row", 1), row)
        # No row stands ahead of the first one.
        self.assertEqual(refused(SPOT, (((), (1,), ("beside", 0, 0)),)), ("row", 0))
        self.assertEqual(refused(SPOT, (((A,), (1, 1), ("split", A, 0, 0)),)), ("row", 0))
        # True in the place of a row's number.
        self.assertEqual(refused(SPOT, (NONE, NONE, ((), (1,), ("beside", True, 0)))), ("row", 2))
        # A pair that a point parts is no tie.
        self.assertEqual(refused(LINE_SIX, (((((0, 0), (2, 2)),), (1, 1), ("none",)),)), ("row", 0))

    def test_ties(self):
        for row in (
                ((A,), (1,), ("none",)), ((A,), (1, 1), ("none",)), ((A,), (1, 1), ("split", A, 1, 0)),
                ((A,), (1, 1), ("split", A, 0, 1)), ((A, B), (1, 2, 1), ("split", A, 0, 0)),
                ((A, B), (1, 2, 1), ("split", A, 1, 1)), ((A, B), (1, 2, 1), ("split", A, 2, 0)),
                ((A,), (1, 2, 1), ("beside", 1, 1)), ((A, B), (1, 2, 1), ("beside", 1, 1)),
                ((A, B), (1, 1), ("beside", 0, 1)), ((), (1,), ("beside", 0, 1)), ((A,), (1, 2, 1), ("beside", 1, 2)),
                ((A, B, C), (1, 2, 1), ("beside", 1, 2)), ((A,), (1,), ("beside", 0, 0)),
                ((A, B), (1, 3, 3, 1), ("beside", 3, 1))):
            self.assertEqual(refused(SPOT, PAPER[:4] + (row,)), ("ties", 4), row)
            self.assertEqual(wanted(SPOT, PAPER[:4] + (row,)), ("ties", 4), row)

    def test_numbers(self):
        for at, (some, numbers, rule) in enumerate(PAPER):
            others = [numbers + (0,), (0,) + numbers, numbers + (1,), tuple(-number for number in numbers), (MANY,)]
            others += [numbers[:-1]] if numbers[1:] else []
            for place in range(len(numbers)):
                for more in (1, -1):
                    others.append(numbers[:place] + (numbers[place] + more,) + numbers[place + 1:])
            for other in others:
                self.assertEqual(refused(SPOT, PAPER[:at] + ((some, other, rule),) + PAPER[at + 1:]), ("numbers", at))

    def test_last(self):
        for at in range(1, len(PAPER)):
            self.assertEqual(refused(SPOT, PAPER[:at]), ("last", at - 1))
            self.assertEqual(refused(SPOT, PAPER + PAPER[:at]), ("last", 4 + at))

    def test_two_words_due(self):
        wrong = ((A,), (9,), ("none",))
        for thing, told in (
                ([None], ("shape", -1)), ((wrong, None), ("row", 1)), ((None, wrong), ("row", 0)),
                # The ties of a row go ahead of its numbers; a row's numbers ahead of the next row's ties.
                ((wrong,), ("ties", 0)), ((((), (9,), ("none",)), wrong), ("numbers", 0)),
                ((NONE, wrong, ((), (9,), ("none",))), ("ties", 1)), ((((), (9,), ("none",)),), ("numbers", 0)),
                ((NONE, NONE, wrong), ("ties", 2))):
            self.assertEqual(refused(SPOT, thing), told)
            self.assertEqual(wanted(SPOT, thing), told)

    def test_spoiled(self):
        source = random.Random(78)
        for thing in spoiled_paper(PAPER):
            self.assertEqual(refused(SPOT, thing), wanted(SPOT, thing))
        paper = tried_web_paper(SQUARE, 1)
        for thing in source.sample(spoiled_paper(paper), 400):
            self.assertEqual(refused(SQUARE, thing), wanted(SQUARE, thing))

    def test_any_thing(self):
        things = [deep(tuple, PAPER, 13), deep(list, PAPER, 13), (PAPER,), PAPER[0], ((),), (NONE,) * 1000]
        for thing in no_points() + things:
            for field in (SPOT, SQUARE, GRID_SIX):
                self.assertEqual(refused(field, thing), wanted(field, thing))

    def test_another_field(self):
        for field in SIXES:
            self.assertEqual(refused(field, PAPER), wanted(field, PAPER))


def spoiled_paper(thing):
    """As with other things, and texts made others, too."""
    if isinstance(thing, str):
        return [None, "", thing + " ", thing.upper(), (thing,), "none", "split", "beside"]
    if isinstance(thing, int):
        return spoiled(thing)
    told = [list(thing), thing[:-1], thing + (0,), None, ""]
    for at, part in enumerate(thing):
        told += [thing[:at] + (other,) + thing[at + 1:] for other in spoiled_paper(part)]
    return told


def changed(field, source, paper):
    """A paper with one row otherwise, less or more, two rows changed for one another."""
    order = ties(field)
    for at in sorted(source.sample(range(len(paper)), min(8, len(paper)))):
        some, numbers, rule = paper[at]
        ahead, behind = paper[:at], paper[at + 1:]
        yield ahead + behind
        yield paper[:at + 1]
        yield ahead + ((some, numbers + (0,), rule),) + behind
        place = source.randrange(len(numbers))
        other = numbers[:place] + (numbers[place] + source.choice((1, -1)),) + numbers[place + 1:]
        yield ahead + ((some, other, rule),) + behind
        yield ahead + ((tuple(sorted(set(some) ^ {source.choice(order)})), numbers, rule),) + behind
        if rule[1:]:
            i, j = rule[-2:]
            for pair in ((j, i), (source.randrange(at), j), (i, source.randrange(at)), (i, at)):
                yield ahead + ((some, numbers, rule[:-2] + pair),) + behind
            yield ahead + ((some, numbers, ("beside", i, j)),) + behind
            yield ahead + ((some, numbers, ("split", source.choice(some or order), i, j)),) + behind
        place = source.randrange(len(paper))
        swapped = list(paper)
        swapped[at], swapped[place] = swapped[place], swapped[at]
        yield tuple(swapped)


class ChangedTests(unittest.TestCase):

    def test_changed_papers(self):
        source = random.Random(78)
        seen = set()
        for field in SIXES[:24] + (bowl(6), HUB_SIX):
            for thing in changed(field, source, tried_web_paper(field, source.randrange(9))):
                found = refused(field, thing)
                self.assertEqual(found, wanted(field, thing))
                seen.add(found[0] if found[0].__class__ is str else "let by")
                # Whoever wrote it: what is let by shows the web row.
                if found[0].__class__ is int:
                    self.assertEqual(found, tried_web_row(field))
        self.assertEqual(seen, {"let by", "row", "ties", "numbers", "last"})
