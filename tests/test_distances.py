"""[63]: fewest turns between two lays."""

import itertools
import unittest

from tests.samples import CIRCLE, CORNERS, FIELDS, NEEDLE, SPOT, SQUARE, bowl, made_field
from tests.trying import all_lays, most_turns, ties_in, tried_turn, walked
from threelays.distances import fewest
from threelays.falls import joined
from threelays.ties import ties

LOW, HIGH = SQUARE[:3], SQUARE[1:]
UP, DOWN = (SQUARE[0], SQUARE[1], SQUARE[3]), (SQUARE[0], SQUARE[2], SQUARE[3])
FALLING, RISING = ((0, 1), (1, 0)), ((0, 0), (1, 1))
GRID_SIX = tuple((x, y) for x in range(3) for y in range(2))
GRID_SEVEN = tuple(sorted(GRID_SIX + ((1, 2),)))
LINE_SEVEN = tuple((x, x) for x in range(6)) + ((6, 5),)
TWO_OFF_LINE = tuple(sorted([(x, 0) for x in range(5)] + [(2, 3), (3, -2)]))
OUTER_SEVEN = tuple(sorted(CORNERS + ((0, 0), (-999, 1000), (999, -1))))
SEVENS = (bowl(7), CIRCLE[:7], GRID_SEVEN, LINE_SEVEN, TWO_OFF_LINE, OUTER_SEVEN) + tuple(
    made_field(seed, 7, reach) for seed, reach in ((1, 2), (2, 3), (3, 5), (4, 1000)))
SMALL_ONES = (SPOT, SQUARE, CORNERS, NEEDLE, bowl(5), bowl(6), GRID_SIX) + tuple(
    field for field in FIELDS if len(field) < 7)[4:24]


def apart(field, one):
    """How many turns each lay is from one: lays that have all ties but one in common are one turn apart."""
    sets = {lay: frozenset(ties_in(lay)) for lay in all_lays(field)}
    told, edge = {one: 0}, [one]
    while edge:
        found = []
        for lay in edge:
            for other, held in sets.items():
                if other not in told and len(held & sets[lay]) == len(held) - 1:
                    told[other] = told[lay] + 1
                    found.append(other)
        edge = found
    return told


def leads(field, one, some):
    """The lay to which a list of ties leads; None where one of them cannot be turned."""
    for tie in some:
        found = tried_turn(field, one, tie) if tie in ties_in(one) else None
        if found is None:
            return None
        one = found[0]
    return one


class FewestTests(unittest.TestCase):

    def look(self, field, one, other, wanted):
        told = fewest(field, one, other)
        self.assertIs(told.__class__, list)
        self.assertEqual(walked(field, one, told)[-1], other)
        self.assertEqual(len(told), wanted)
        self.assertLessEqual(len(told), 2 * most_turns(field))

    def test_told_ones(self):
        self.assertEqual(fewest(SPOT, (SPOT,), (SPOT,)), [])
        self.assertEqual(fewest(SQUARE, (LOW, HIGH), (UP, DOWN)), [FALLING])
        self.assertEqual(fewest(SQUARE, (UP, DOWN), (LOW, HIGH)), [RISING])
        # Of five on a round each lay is at most two turns from each other one, of six at most four, of seven five.
        for many, most in ((5, 2), (6, 4), (7, 5)):
            lays = all_lays(bowl(many))
            found = [len(fewest(bowl(many), one, other)) for one in lays[:20] for other in lays]
            self.assertEqual(max(found), most)

    def test_a_lay_and_itself(self):
        for field in SMALL_ONES + SEVENS:
            for lay in all_lays(field)[:10]:
                self.assertEqual(fewest(field, lay, lay), [])
                self.assertEqual(fewest(field, lay, tuple(list(lay))), [])

    def test_all_pairs_of_small_fields(self):
        for field in SMALL_ONES:
            for one in all_lays(field):
                for other, wanted in apart(field, one).items():
                    self.look(field, one, other, wanted)

    def test_seven_points(self):
        for field in SEVENS:
            lays = all_lays(field)
            for one in (lays[0], lays[len(lays) // 2], lays[-1]):
                told = apart(field, one)
                self.assertEqual(len(told), len(lays))
                for other, wanted in told.items():
                    self.look(field, one, other, wanted)

    def test_no_list_with_fewer(self):
        # Each list of fewer ties is tried.
        for field in (SQUARE, bowl(5), GRID_SIX[:5], bowl(6)):
            for one, other in itertools.product(all_lays(field)[:4], all_lays(field)[-4:]):
                told = fewest(field, one, other)
                inner = [tie for tie in ties(field) if any(tie not in ties_in(lay) for lay in all_lays(field))]
                for many in range(len(told)):
                    for some in itertools.product(inner, repeat=many):
                        self.assertNotEqual(leads(field, one, some), other)

    def test_no_more_than_joined(self):
        for field in SEVENS:
            lays = all_lays(field)
            for one, other in zip(lays[:20], lays[::-1]):
                self.assertLessEqual(len(fewest(field, one, other)), len(joined(field, one, other)))

    def test_there_and_back(self):
        for field in SEVENS:
            lays = all_lays(field)
            for one, other in zip(lays[:12], lays[::-1]):
                self.assertEqual(len(fewest(field, one, other)), len(fewest(field, other, one)))

    def test_new_lists(self):
        for other in ((LOW, HIGH), (UP, DOWN)):
            first = fewest(SQUARE, (LOW, HIGH), other)
            kept = list(first)
            first.append("x")
            self.assertEqual(fewest(SQUARE, (LOW, HIGH), other), kept)

    def test_somewhat_beyond_seven_points(self):
        field = bowl(8)
        one, other = all_lays(field)[0], all_lays(field)[-1]
        self.look(field, one, other, apart(field, one)[other])

    def test_by_names(self):
        self.assertEqual(fewest(other=(UP, DOWN), one=(LOW, HIGH), field=SQUARE), [FALLING])
