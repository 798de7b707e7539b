"""[72], [73]: the checker of ring papers."""

import random
import unittest

from tests.roundtrying import (
    DART, FLAT_RING, HOOK, RINGS, RIM_TWELVE, SPOT_RING, SQUARE_RING, all_pairs, bowl_ring, ring_lays,
    tried_ring_triangles)
from tests.samples import MANY, deep, no_points, spoiled
from threelays.errors import LayError, NoPaper
from threelays.ringchecker import lets_ring

PAPER = ((0, 2, 1), (1, 3, 1), (0, 3, 2))
FIVE = bowl_ring(5)
FIVE_PAPER = (
    (0, 1, 1), (1, 2, 1), (2, 3, 1), (3, 4, 1), (0, 2, 1), (1, 3, 1), (2, 4, 1), (0, 3, 2), (1, 4, 2), (0, 4, 5))


def refused(ring, thing):
    """The word and the number with which a thing is refused; the number told where it is let by."""
    try:
        told = lets_ring(ring, thing)
    except NoPaper as error:
        return error.word, error.number
    assert told.__class__ is int, told
    return told


def is_plain_row(ring, row):
    if row.__class__ is not tuple or len(row) != 3 or any(part.__class__ is not int for part in row):
        return False
    return 0 <= row[0] < row[1] <= len(ring) - 1


def wanted(ring, thing):
    """What the document tells, word by word."""
    if thing.__class__ is not tuple or not thing:
        return "shape", -1
    for at, row in enumerate(thing):
        if not is_plain_row(ring, row):
            return "row", at
    held = tried_ring_triangles(ring)
    for at, (i, j, number) in enumerate(thing):
        total = 1 if j == i + 1 else 0
        for k in range(i + 1, j):
            if tuple(sorted((ring[i], ring[k], ring[j]))) in held:
                factors = []
                for pair in ((i, k), (k, j)):
                    told = [row[2] for row in thing[:at] if row[:2] == pair] + [1][:pair[1] == pair[0] + 1]
                    if not told:
                        return "ahead", at
                    factors.append(told[0])
                total += factors[0] * factors[1]
        if number != total:
            return "number", at
    if thing[-1][:2] != (0, len(ring) - 1):
        return "last", len(thing) - 1
    return thing[-1][2]


def tried_ring_paper(ring, sparing=False):
    """A ring paper: all pairs, the nearer ones ahead; sparing, without those whose second place is the next one."""
    known = {}
    held = tried_ring_triangles(ring)
    for i, j in sorted(all_pairs(len(ring)), key=lambda pair: pair[1] - pair[0]):
        known[i, j] = 1 if j == i + 1 else sum(
            known[i, k] * known[k, j] for k in range(i + 1, j) if tuple(sorted((ring[i], ring[k], ring[j]))) in held)
    return tuple((i, j, number) for (i, j), number in known.items() if not sparing or j != i + 1)


class LetByTests(unittest.TestCase):

    def test_told_ones(self):
        self.assertEqual(lets_ring(SPOT_RING, ((0, 2, 1),)), 1)
        self.assertEqual(lets_ring(SPOT_RING, ((0, 1, 1), (1, 2, 1), (0, 2, 1))), 1)
        self.assertEqual(lets_ring(SQUARE_RING, PAPER), 2)
        self.assertEqual(lets_ring(FIVE, FIVE_PAPER), 5)
        self.assertEqual(lets_ring(DART, ((0, 2, 1), (0, 3, 1))), 1)

    def test_rows_of_next_places_with_and_without_need(self):
        for ring in RINGS:
            self.assertEqual(lets_ring(ring, tried_ring_paper(ring)), len(ring_lays(ring)))
            self.assertEqual(lets_ring(ring, tried_ring_paper(ring, True)), len(ring_lays(ring)))
            for i in range(len(ring) - 1):
                paper = tried_ring_paper(ring, True)
                self.assertEqual(lets_ring(ring, ((i, i + 1, 1),) + paper), len(ring_lays(ring)))
                self.assertEqual(lets_ring(ring, paper[:-1] + ((i, i + 1, 1), (i, i + 1, 1)) + paper[-1:]),
                                 len(ring_lays(ring)))
                self.assertEqual(refused(ring, ((i, i + 1, 0),) + paper), ("number", 0))

    def test_only_what_the_last_row_wants(self):
        # Going back from the last row, what is wanted alone.
        for ring in RINGS:
            held = tried_ring_triangles(ring)
            needed, ways = set(), [(0, len(ring) - 1)]
            while ways:
                i, j = ways.pop()
                if (i, j) not in needed and j > i + 1:
                    needed.add((i, j))
                    for k in range(i + 1, j):
                        if tuple(sorted((ring[i], ring[k], ring[j]))) in held:
                            ways += [(i, k), (k, j)]
            paper = tuple(row for row in tried_ring_paper(ring) if row[:2] in needed)
            self.assertEqual(lets_ring(ring, paper), len(ring_lays(ring)))
            for at in range(len(paper) - 1):
                self.assertEqual(refused(ring, paper[:at] + paper[at + 1:])[0], "ahead")

    def test_several_of_one_pair(self):
        for at in range(len(PAPER)):
            self.assertEqual(lets_ring(SQUARE_RING, PAPER[:at + 1] + PAPER[at:]), 2)
        self.assertEqual(lets_ring(SQUARE_RING, PAPER + PAPER), 2)
        self.assertEqual(lets_ring(SQUARE_RING, PAPER + PAPER[-1:] * 300), 2)

    def test_pairs_that_are_no_sides_of_triangles_have_nought(self):
        # From place 1 to place 3 of the dart goes a way outside of it.
        self.assertEqual(lets_ring(DART, ((1, 3, 0), (0, 2, 1), (0, 3, 1))), 1)
        self.assertEqual(refused(DART, ((1, 3, 1), (0, 2, 1), (0, 3, 1))), ("number", 0))
        # From place 0 to place 2 of the flat one, a point lies on the way.
        self.assertEqual(refused(FLAT_RING, ((0, 2, 1),)), ("number", 0))

    def test_twelve_points(self):
        self.assertEqual(lets_ring(bowl_ring(12), tried_ring_paper(bowl_ring(12))), 16796)
        for ring in (HOOK, RIM_TWELVE):
            self.assertEqual(lets_ring(ring, tried_ring_paper(ring)), len(ring_lays(ring)))

    def test_by_names(self):
        self.assertEqual(lets_ring(thing=PAPER, ring=SQUARE_RING), 2)


class RefusedTests(unittest.TestCase):

    def test_the_error(self):
        with self.assertRaises(LayError) as caught:
            lets_ring(SQUARE_RING, PAPER[:2])
        self.assertIs(caught.exception.__class__, NoPaper)
        self.assertEqual(vars(caught.exception), {"word": "last", "number": 1})

    def test_shape(self):
        for thing in (None, True, False, 0, "ring", (), [], list(PAPER)):
            self.assertEqual(refused(SQUARE_RING, thing), ("shape", -1))

    def test_row(self):
        for row in (None, 5, (), [], (0, 3), (0, 3, 2, 2), [0, 3, 2], (0, 4, 1), (-1, 3, 1), (3, 0, 2), (2, 2, 1),
                    (0, True, 1), (False, 1, 1), (False, 3, 2), (0, 1, True), (0, 2, True), (True, 2, 1), (0, 3, None),
                    (0, 3, "2"), ("0", 3, 2), (0, (3,), 2), (0, MANY, 1), (-MANY, 3, 1), (0, 3, (2,)), ((0, 3), 2),
                    (1, 3, False), (0, -1, 2)):
            self.assertEqual(refused(SQUARE_RING, (row,)), ("row", 0), row)
            self.assertEqual(refused(SQUARE_RING, PAPER + (row,)), ("row", 3), row)
            self.assertEqual(refused(SQUARE_RING, PAPER[:1] + (row, row) + PAPER[1:]), ("row", 1), row)

    def test_ahead(self):
        self.assertEqual(refused(SQUARE_RING, PAPER[1:]), ("ahead", 1))
        self.assertEqual(refused(SQUARE_RING, PAPER[:1] + PAPER[2:]), ("ahead", 1))
        self.assertEqual(refused(SQUARE_RING, PAPER[::-1]), ("ahead", 0))
        self.assertEqual(refused(SQUARE_RING, PAPER[2:]), ("ahead", 0))

    def test_number(self):
        for at, (i, j, number) in enumerate(FIVE_PAPER):
            for other in (number + 1, number - 1, -number, 7, MANY, -MANY):
                thing = FIVE_PAPER[:at] + ((i, j, other),) + FIVE_PAPER[at + 1:]
                self.assertEqual(refused(FIVE, thing), ("number", at))

    def test_last(self):
        for at in range(1, len(FIVE_PAPER)):
            self.assertEqual(refused(FIVE, FIVE_PAPER[:at]), ("last", at - 1))
        self.assertEqual(refused(FIVE, FIVE_PAPER + FIVE_PAPER[:1]), ("last", 10))
        self.assertEqual(refused(SPOT_RING, ((0, 1, 1),)), ("last", 0))

    def test_two_words_due(self):
        for thing, told in (
                ([None], ("shape", -1)), (((0, 2, 9), None), ("row", 1)), ((None, (0, 2, 9)), ("row", 0)),
                # What lacks ahead goes ahead of the number in one row; a wrong number ahead of what lacks further on.
                (((0, 3, 9),), ("ahead", 0)), (((0, 2, 9), (0, 3, 9)), ("number", 0)),
                (((0, 3, 2), (0, 2, 9)), ("ahead", 0)), (((0, 2, 1), (1, 3, 0)), ("number", 1)),
                (((0, 2, 9),), ("number", 0)), (((0, 3, 2), (0, 1, 1)), ("ahead", 0))):
            self.assertEqual(refused(SQUARE_RING, thing), told)
            self.assertEqual(wanted(SQUARE_RING, thing), told)

    def test_spoiled(self):
        for ring, paper in ((SQUARE_RING, PAPER), (SPOT_RING, ((0, 1, 1), (0, 2, 1))), (FIVE, FIVE_PAPER)):
            for thing in spoiled(paper):
                self.assertEqual(refused(ring, thing), wanted(ring, thing))

    def test_any_thing(self):
        things = [deep(tuple, PAPER, 16), deep(list, PAPER, 16), (PAPER,), PAPER[0], ((),), (None,) * 4000]
        for thing in no_points() + things:
            for ring in (SPOT_RING, SQUARE_RING, HOOK):
                self.assertEqual(refused(ring, thing), wanted(ring, thing))

    def test_another_ring(self):
        for ring in RINGS:
            self.assertEqual(refused(ring, PAPER), wanted(ring, PAPER))
            self.assertEqual(refused(ring, FIVE_PAPER), wanted(ring, FIVE_PAPER))


def changed(ring, source, paper):
    """A paper with one row otherwise, less or more, two rows changed for one another."""
    pairs = all_pairs(len(ring))
    for at in sorted(source.sample(range(len(paper)), min(4, len(paper)))):
        i, j, number = paper[at]
        yield paper[:at] + paper[at + 1:]
        yield paper[at:] + paper[:at]
        yield paper[:at + 1]
        yield paper[:at] + ((i, j, number + source.choice((1, -1, 2))),) + paper[at + 1:]
        yield paper[:at] + ((i + source.choice((1, -1)), j, number),) + paper[at + 1:]
        yield paper[:at] + ((i, j + source.choice((1, -1)), number),) + paper[at + 1:]
        yield paper[:at] + (source.choice(pairs) + (number,),) + paper[at:]
        yield paper[:at] + (source.choice(paper),) + paper[at:]
        place = source.randrange(len(paper))
        swapped = list(paper)
        swapped[at], swapped[place] = swapped[place], swapped[at]
        yield tuple(swapped)


class ChangedTests(unittest.TestCase):

    def test_changed_papers(self):
        source = random.Random(73)
        seen = set()
        for ring in RINGS:
            for paper in (tried_ring_paper(ring), tried_ring_paper(ring, True)):
                for thing in changed(ring, source, paper):
                    found = refused(ring, thing)
                    self.assertEqual(found, wanted(ring, thing))
                    seen.add(found[0] if found.__class__ is tuple else "let by")
                    # Whoever wrote it: what is let by shows the count.
                    if found.__class__ is int:
                        self.assertEqual(found, len(ring_lays(ring)))
        self.assertEqual(seen, {"let by", "shape", "row", "ahead", "number", "last"})
