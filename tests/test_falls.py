"""[6], [57], [58], [59], [60]: falling, and joining two lays."""

import random
import unittest

from tests.samples import (
    BOTH_OFF, CIRCLE, FIELDS, FIRST_OFF, FLAT_ROW, GRID_FOUR, GRID_THREE, LAST_OFF, LOW_ROW, NINES, OUTER_NINE,
    OUTERMOST, SIXTEEN, SPOT, SQUARE, TWO_OFF, bowl)
from tests.trying import (
    all_lays, lay_with_walls, many_walls, most_turns, plain_lays, some_lays, ties_in, tried_plain, walked)
from threelays.falls import fallen, joined
from threelays.lays import lift
from threelays.plain import plain_lay

LOW, HIGH = SQUARE[:3], SQUARE[1:]
UP, DOWN = (SQUARE[0], SQUARE[1], SQUARE[3]), (SQUARE[0], SQUARE[2], SQUARE[3])
FALLING, RISING = ((0, 1), (1, 0)), ((0, 0), (1, 1))


class FallenTests(unittest.TestCase):

    def look(self, field, walls, lay):
        """Walk the list one by one."""
        told = fallen(field, walls, lay)
        self.assertIs(told.__class__, list)
        lays = walked(field, lay, told, walls)
        for tie, here in zip(told, lays):
            self.assertFalse(tried_plain(here, tie))
        self.assertEqual(lays[-1], plain_lay(field, walls))
        # Nothing twice, nothing that the last one has, and so no longer than there are other ties.
        self.assertEqual(len(set(told)), len(told))
        self.assertTrue(set(told).isdisjoint(ties_in(lays[-1])))
        self.assertLessEqual(len(told), most_turns(field))
        return lays

    def test_told_ones(self):
        self.assertEqual(fallen(SPOT, (), (SPOT,)), [])
        self.assertEqual(fallen(SQUARE, (), (UP, DOWN)), [])
        self.assertEqual(fallen(SQUARE, (), (LOW, HIGH)), [FALLING])
        self.assertEqual(fallen(SQUARE, (FALLING,), (LOW, HIGH)), [])
        self.assertEqual(fallen(SQUARE, (RISING,), (UP, DOWN)), [])

    def test_all_lays(self):
        for field in NINES:
            for lay in all_lays(field)[::5][:12]:
                lays = self.look(field, (), lay)
                self.assertEqual([lays[-1]], plain_lays(field, ()))

    def test_walls(self):
        for field in NINES:
            for walls in many_walls(field):
                having = [lay for lay in all_lays(field) if set(walls) <= set(ties_in(lay))]
                for lay in having[-3:]:
                    lays = self.look(field, walls, lay)
                    self.assertTrue(all(set(walls) <= set(ties_in(here)) for here in lays))

    def test_sixteen_points(self):
        for field in SIXTEEN + FIELDS[-3:]:
            for walls in many_walls(field)[:5]:
                for seed in range(2):
                    self.look(field, walls, lay_with_walls(field, walls, seed))

    def test_the_lift_falls_or_stays(self):
        for field in NINES[:30] + SIXTEEN:
            for lay in some_lays(field):
                lifts = [lift(here) for here in self.look(field, (), lay)]
                self.assertEqual(lifts, sorted(lifts, reverse=True))

    def test_from_the_plain_lay_on(self):
        for field in FIELDS:
            for walls in many_walls(field)[:5]:
                self.assertEqual(fallen(field, walls, plain_lay(field, walls)), [])

    def test_a_whole_lay_of_walls(self):
        for field in FIELDS:
            lay = some_lays(field)[0]
            self.assertEqual(fallen(field, tuple(ties_in(lay)), lay), [])

    def test_all_but_one_on_a_line(self):
        for field in (LAST_OFF, FIRST_OFF, FLAT_ROW, LOW_ROW):
            self.assertEqual(fallen(field, (), some_lays(field)[0]), [])

    def test_on_one_circle(self):
        # All come to the lay about the least point.
        for lay in some_lays(CIRCLE):
            lays = self.look(CIRCLE, (), lay)
            self.assertTrue(all(CIRCLE[0] in three for three in lays[-1]))

    def test_new_lists(self):
        for lay in ((LOW, HIGH), (UP, DOWN)):
            first = fallen(SQUARE, (), lay)
            kept = list(first)
            first.append("x")
            self.assertEqual(fallen(SQUARE, (), lay), kept)

    def test_by_names(self):
        self.assertEqual(fallen(lay=(LOW, HIGH), walls=(), field=SQUARE), [FALLING])


class JoinedTests(unittest.TestCase):

    def look(self, field, one, other):
        told = joined(field, one, other)
        self.assertIs(told.__class__, list)
        self.assertEqual(walked(field, one, told)[-1], other)
        self.assertLessEqual(len(told), 2 * most_turns(field))
        if one == other:
            self.assertEqual(told, [])

    def test_told_ones(self):
        self.assertEqual(joined(SQUARE, (LOW, HIGH), (UP, DOWN)), [FALLING])
        self.assertEqual(joined(SQUARE, (UP, DOWN), (LOW, HIGH)), [RISING])

    def test_a_lay_and_itself(self):
        for field in FIELDS:
            for lay in some_lays(field):
                self.assertEqual(joined(field, lay, lay), [])
                # The same lay, but another thing.
                self.assertEqual(joined(field, lay, tuple(list(lay))), [])

    def test_all_pairs(self):
        for field in (SQUARE, bowl(5), bowl(6), TWO_OFF) + NINES[13:25]:
            lays = all_lays(field)[:14]
            for one in lays:
                for other in lays:
                    self.look(field, one, other)

    def test_pairs_by_chance(self):
        source = random.Random(59)
        for field in NINES + (GRID_THREE, OUTER_NINE, BOTH_OFF):
            for step in range(4):
                self.look(field, source.choice(all_lays(field)), source.choice(all_lays(field)))

    def test_sixteen_points(self):
        for field in SIXTEEN + FIELDS[-3:] + (GRID_FOUR, OUTERMOST):
            lays = [lay_with_walls(field, (), seed) for seed in range(3)] + [plain_lay(field, ())]
            for one in lays:
                for other in lays:
                    self.look(field, one, other)

    def test_new_lists(self):
        first = joined(SQUARE, (UP, DOWN), (UP, DOWN))
        first.append("x")
        self.assertEqual(joined(SQUARE, (UP, DOWN), (UP, DOWN)), [])

    def test_by_names(self):
        self.assertEqual(joined(other=(UP, DOWN), one=(LOW, HIGH), field=SQUARE), [FALLING])
