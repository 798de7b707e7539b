"""[17]: what follows for ties, triangles and hull ties."""

import itertools
import unittest

from tests.samples import CORNERS, FIELDS, FLAT_ROW, GRID_FOUR, LADDER, OUTERMOST, RIM, SIXTEEN, SMALL, WHEEL
from tests.shapes import places_in_common
from tests.trying import hull_ties, sides
from threelays.points import side
from threelays.ties import cross, crossing, ties
from threelays.triangles import over, triangles

SOME = SMALL + (WHEEL, RIM, LADDER, FLAT_ROW) + FIELDS[16:50]


class FollowsTests(unittest.TestCase):

    def test_ties_that_do_not_cross_have_an_end_in_common_or_nothing(self):
        for field in SOME + (OUTERMOST,):
            for one, other in itertools.combinations(ties(field), 2):
                if not cross(one, other):
                    self.assertEqual(places_in_common(one, other), set(one) & set(other))

    def test_triangles_lie_over_one_another_just_where_sides_cross(self):
        for field in SOME:
            crossed = {tie: set(crossing(field, tie)) for tie in ties(field)}
            for one, other in itertools.product(triangles(field), repeat=2):
                wanted = one == other or any(crossed[tie] & set(sides(other)) for tie in sides(one))
                self.assertIs(over(one, other), wanted)

    def test_sixteen_points(self):
        told = triangles(GRID_FOUR)
        for one, other in itertools.combinations(told[::5], 2):
            wanted = any(cross(a, b) for a, b in itertools.product(sides(one), sides(other)))
            self.assertIs(over(one, other), wanted)

    def test_each_tie_is_a_side_on_each_hand_that_has_points(self):
        for field in FIELDS:
            hands = {tie: set() for tie in ties(field)}
            for triangle in triangles(field):
                for tie in sides(triangle):
                    third = [point for point in triangle if point not in tie][0]
                    hands[tie].add(side(tie[0], tie[1], third))
            for tie, found in hands.items():
                self.assertEqual(found, {side(tie[0], tie[1], point) for point in field} - {0})

    def test_points_on_one_hand_alone_just_at_hull_ties(self):
        for field in FIELDS:
            rim = hull_ties(field)
            for tie in ties(field):
                hands = {side(tie[0], tie[1], point) for point in field} - {0}
                self.assertEqual(len(hands) == 1, tie in rim)

    def test_hull_ties_are_ties_that_nothing_crosses(self):
        for field in SIXTEEN + (CORNERS, RIM):
            for tie in hull_ties(field):
                self.assertIn(tie, ties(field))
                self.assertEqual(crossing(field, tie), ())
