"""[2]: what is handed in stays as it was, askings repeated are answered alike, what is told is new."""

import copy
import inspect
import unittest

from tests.samples import FIELDS, GRID_FOUR, GRID_THREE, OUTERMOST, SPOT, SQUARE, no_points
from threelays import fields, fractions, points, ties, triangles

TIE = ((0, 0), (1, 1))
OTHER_TIE = ((0, 1), (1, 0))
THREE = ((0, 0), (3, 1), (1, 4))

INTERFACE = (
    (fractions, "is_number", ("thing",)), (fractions, "is_fraction", ("thing",)),
    (fractions, "fraction", ("top", "bottom")), (fractions, "less", ("one", "other")),
    (points, "is_point", ("thing",)), (points, "side", ("a", "b", "c")), (points, "area", ("a", "b", "c")),
    (points, "far", ("a", "b")), (points, "corner", ("a", "b", "c")),
    (fields, "is_field", ("thing",)), (fields, "hull", ("field",)), (fields, "hull_area", ("field",)),
    (fields, "lower", ("field",)), (fields, "upper", ("field",)),
    (ties, "is_tie", ("field", "thing")), (ties, "ties", ("field",)), (ties, "cross", ("one", "other")),
    (ties, "crossing", ("field", "tie")),
    (triangles, "is_triangle", ("field", "thing")), (triangles, "triangles", ("field",)),
    (triangles, "over", ("one", "other")), (triangles, "least_corner", ("triangle",)))

ASKINGS = (
    (fractions.fraction, (6, -4)), (fractions.less, ((1, 3), (1, 2))), (points.side, THREE), (points.area, THREE),
    (points.far, THREE[:2]), (points.corner, THREE), (ties.cross, (TIE, OTHER_TIE)), (ties.crossing, (SQUARE, TIE)),
    (triangles.over, (SPOT, SPOT)), (triangles.least_corner, (SPOT,)))

LOOKS = (
    fractions.is_number, fractions.is_fraction, points.is_point, fields.is_field,
    lambda thing: ties.is_tie(GRID_THREE, thing), lambda thing: triangles.is_triangle(GRID_THREE, thing))

TELLS = (fields.hull, fields.hull_area, fields.lower, fields.upper, ties.ties, triangles.triangles)


def right_things():
    """Things that some look lets by, and such with a list in them."""
    return [3, (1, 2), TIE, list(TIE), SPOT, list(SPOT), GRID_THREE, ([0, 0], [0, 1], [1, 0]), [[0, 0], [1, 1]]]


class InterfaceTests(unittest.TestCase):

    def test_names_and_order_of_arguments(self):
        for module, name, arguments in INTERFACE:
            found = inspect.signature(getattr(module, name)).parameters
            self.assertEqual(tuple(found), arguments, name)
            self.assertTrue(all(one.default is one.empty for one in found.values()), name)


class HandedInTests(unittest.TestCase):

    def test_things_looked_at_stay(self):
        for look in LOOKS:
            for thing in no_points() + right_things():
                before = copy.deepcopy(thing)
                first = look(thing)
                self.assertEqual(repr(thing), repr(before))
                self.assertIs(look(thing), first)
                self.assertIs(look(before), first)
                self.assertIs(first.__class__, bool)

    def test_fields_stay(self):
        for tell in TELLS:
            for field in FIELDS[:20]:
                before = repr(field)
                tell(field)
                self.assertEqual(repr(field), before)

    def test_other_things_handed_in_stay(self):
        for ask, things in ASKINGS:
            before = repr(things)
            ask(*things)
            self.assertEqual(repr(things), before)


class AnsweredAlikeTests(unittest.TestCase):

    def test_repeated(self):
        for ask, things in ASKINGS:
            self.assertEqual(repr(ask(*things)), repr(ask(*things)))
        for tell in TELLS:
            for field in FIELDS[:20]:
                self.assertEqual(repr(tell(field)), repr(tell(field)))

    def test_whatever_was_asked_before(self):
        for tell in TELLS:
            first = tell(GRID_FOUR)
            kept = repr(first)
            for field in (OUTERMOST, SQUARE, SPOT):
                tell(field)
            self.assertEqual(tell(GRID_FOUR), first)
            self.assertEqual(repr(first), kept)

    def test_told_things_hold_tuples_and_numbers_alone(self):
        def look(thing):
            if thing.__class__ is tuple:
                for part in thing:
                    look(part)
            else:
                self.assertIs(thing.__class__, int)

        for tell in TELLS:
            for field in FIELDS:
                look(tell(field))
        for name in ("fraction", "corner", "side", "area", "far"):
            module = fractions if name == "fraction" else points
            things = (6, -4) if name == "fraction" else THREE[:2] if name == "far" else THREE
            look(getattr(module, name)(*things))
        look(triangles.least_corner(SPOT))
        look(ties.crossing(SQUARE, TIE))
