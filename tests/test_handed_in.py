"""[2]: what is handed in stays as it was, askings repeated are answered alike, what is told is new."""

import copy
import inspect
import unittest

from tests.samples import FIELDS, GRID_FOUR, GRID_THREE, OUTERMOST, SPOT, SQUARE, no_points
from threelays import (
    boundchecker, boundpapers, circles, countchecker, counting, countpapers, desk, distances, falls, farchecker,
    farpapers, fields, fractions, fronts, keeping, laychecker, lays, leasts, longest, menus, nears, numbering, plain,
    plainchecker, points, readings, ringchecker, ringleasts, ringpapers, rings, texts, tielays, ties, triangles, turns,
    webchecker, webpapers, webs)
from threelays.errors import Crossed, LayError, NoLay, NoPaper, NoPoint, NoRow, NoStep, NoText, NoTie

TIE = ((0, 0), (1, 1))
OTHER_TIE = ((0, 1), (1, 0))
THREE = ((0, 0), (3, 1), (1, 4))
LAY = (SPOT, SQUARE[1:])
PLAIN = ((SQUARE[0], SQUARE[1], SQUARE[3]), (SQUARE[0], SQUARE[2], SQUARE[3]))
ALL = triangles.triangles(SQUARE)
LOWER = fields.lower(SQUARE)
PAPER = ((fields.upper(SQUARE), 1, 1), (SQUARE, 0, 1), (LOWER, 0, 1))
WEIGHTS = (1, 2, 3, 4, 5, 6)
BOUNDS = ((fields.upper(SQUARE), 0), (SQUARE, 5), (LOWER, 10))
FARS = (1, ((PLAIN, 0),))
RING = ((0, 0), (1, 0), (1, 1), (0, 1))
RING_PAPER = ((0, 2, 1), (1, 3, 1), (0, 3, 2))
SIDES = ties.ties(SPOT)
WEB_PAPER = (((), (1,), ("none",)), (SIDES[:1], (1, 1), ("split", SIDES[0], 0, 0)),
             (SIDES[:2], (1, 2, 1), ("split", SIDES[1], 1, 1)), (SIDES, (1, 3, 3, 1), ("split", SIDES[2], 2, 2)))
RIGHT = (LAY, PAPER, BOUNDS, OTHER_TIE, FARS, RING_PAPER, WEB_PAPER)

INTERFACE = (
    (fractions, "is_number", ("thing",)), (fractions, "is_fraction", ("thing",)),
    (fractions, "fraction", ("top", "bottom")), (fractions, "less", ("one", "other")),
    (points, "is_point", ("thing",)), (points, "side", ("a", "b", "c")), (points, "area", ("a", "b", "c")),
    (points, "far", ("a", "b")), (points, "corner", ("a", "b", "c")),
    (fields, "is_field", ("thing",)), (fields, "hull", ("field",)), (fields, "hull_area", ("field",)),
    (fields, "lower", ("field",)), (fields, "upper", ("field",)),
    (ties, "is_tie", ("field", "thing")), (ties, "ties", ("field",)), (ties, "cross", ("one", "other")),
    (ties, "crossing", ("field", "tie")),
    (triangles, "is_triangle", ("field", "thing")), (triangles, "triangles", ("field",)),
    (triangles, "over", ("one", "other")), (triangles, "least_corner", ("triangle",)),
    (laychecker, "lets_lay", ("field", "thing")), (lays, "ties_of", ("lay",)), (lays, "inner", ("field", "lay")),
    (lays, "opposite", ("lay", "tie")), (lays, "least_of", ("lay",)), (lays, "lift", ("lay",)),
    (lays, "weight", ("field", "weights", "lay")), (tielays, "lay_of", ("field", "some")),
    (menus, "is_menu", ("field", "thing")), (menus, "with_ties", ("field", "some")),
    (menus, "without_ties", ("field", "some")), (menus, "with_triangles", ("field", "some")),
    (menus, "no_longer", ("field", "most")), (menus, "corners_from", ("field", "corner", "strict")),
    (fronts, "is_front", ("field", "thing")), (fronts, "advances", ("field", "menu", "front", "mark")),
    (fronts, "laying_row", ("field", "lay")), (counting, "count", ("field", "menu")),
    (countchecker, "lets_count", ("field", "menu", "thing")), (countpapers, "count_paper", ("field", "menu")),
    (numbering, "lay_at", ("field", "menu", "number")), (numbering, "place_of", ("field", "menu", "lay")),
    (leasts, "least", ("field", "weights", "menu")),
    (boundchecker, "lets_bound", ("field", "weights", "menu", "thing")),
    (boundpapers, "bound_paper", ("field", "weights", "menu")), (longest, "least_longest", ("field",)),
    (longest, "greatest_corner", ("field",)), (turns, "can_turn", ("field", "lay", "thing")),
    (turns, "turns", ("field", "lay")), (turns, "turned", ("field", "lay", "thing")),
    (circles, "circle", ("corners", "point")), (circles, "is_plain", ("field", "lay", "tie")),
    (circles, "is_empty", ("field", "lay")), (plain, "plain_lay", ("field", "walls")),
    (plainchecker, "lets_plain", ("field", "walls", "thing")), (falls, "fallen", ("field", "walls", "lay")),
    (falls, "joined", ("field", "one", "other")), (nears, "near_ties", ("field",)),
    (distances, "fewest", ("field", "one", "other")), (farchecker, "lets_far", ("field", "one", "other", "thing")),
    (farpapers, "far_paper", ("field", "one", "other")), (rings, "is_ring", ("thing",)),
    (rings, "ring_triangles", ("ring",)), (rings, "ring_count", ("ring",)),
    (ringchecker, "lets_ring", ("ring", "thing")), (ringpapers, "ring_paper", ("ring",)),
    (ringleasts, "ring_least", ("ring", "weights")), (webs, "web_row", ("field",)),
    (webchecker, "lets_web", ("field", "thing")), (webpapers, "web_paper", ("field",)),
    (keeping, "Keeper", ("field",)), (keeping.Keeper, "points", ("self",)), (keeping.Keeper, "walls", ("self",)),
    (keeping.Keeper, "lay", ("self",)), (keeping.Keeper, "put", ("self", "thing")),
    (keeping.Keeper, "take", ("self", "thing")), (keeping.Keeper, "wall", ("self", "thing")),
    (keeping.Keeper, "unwall", ("self", "thing")), (keeping.Keeper, "back", ("self",)),
    (texts, "shown_points", ("points",)), (texts, "shown_ties", ("some",)), (texts, "shown_triangles", ("some",)),
    (texts, "shown_ring", ("paper",)), (texts, "shown_web", ("paper",)), (readings, "read_points", ("text",)),
    (readings, "read_ties", ("text",)), (readings, "read_triangles", ("text",)), (readings, "read_ring", ("lines",)),
    (readings, "read_web", ("lines",)), (desk, "Desk", ()), (desk.Desk, "say", ("self", "row")))

ASKINGS = (
    (fractions.fraction, (6, -4)), (fractions.less, ((1, 3), (1, 2))), (points.side, THREE), (points.area, THREE),
    (points.far, THREE[:2]), (points.corner, THREE), (ties.cross, (TIE, OTHER_TIE)), (ties.crossing, (SQUARE, TIE)),
    (triangles.over, (SPOT, SPOT)), (triangles.least_corner, (SPOT,)), (laychecker.lets_lay, (SQUARE, LAY)),
    (lays.ties_of, (LAY,)), (lays.inner, (SQUARE, LAY)), (lays.opposite, (LAY, OTHER_TIE)), (lays.opposite, (LAY, TIE)),
    (lays.least_of, (LAY,)), (lays.lift, (LAY,)), (lays.weight, (SQUARE, (1, 2, 3, 4, 5, 6), LAY)),
    (tielays.lay_of, (SQUARE, lays.ties_of(LAY))), (menus.with_ties, (SQUARE, (TIE,))),
    (menus.without_ties, (SQUARE, (TIE,))), (menus.with_triangles, (SQUARE, (SPOT,))), (menus.no_longer, (SQUARE, 2)),
    (menus.corners_from, (SQUARE, (1, 1), False)), (fronts.advances, (SQUARE, ALL, LOWER, 0)),
    (fronts.laying_row, (SQUARE, LAY)), (counting.count, (SQUARE, ALL)),
    (countchecker.lets_count, (SQUARE, LAY, PAPER)), (countpapers.count_paper, (SQUARE, ALL)),
    (numbering.lay_at, (SQUARE, ALL, 1)), (numbering.place_of, (SQUARE, ALL, LAY)),
    (leasts.least, (SQUARE, WEIGHTS, ALL)), (boundchecker.lets_bound, (SQUARE, WEIGHTS, LAY, BOUNDS)),
    (boundpapers.bound_paper, (SQUARE, WEIGHTS, ALL)), (longest.least_longest, (GRID_THREE,)),
    (longest.greatest_corner, (GRID_THREE,)), (turns.can_turn, (SQUARE, LAY, OTHER_TIE)),
    (turns.turns, (SQUARE, LAY)), (turns.turned, (SQUARE, LAY, OTHER_TIE)), (circles.circle, (SPOT, (5, 5))),
    (circles.is_plain, (SQUARE, LAY, OTHER_TIE)), (circles.is_empty, (SQUARE, LAY)),
    (plain.plain_lay, (SQUARE, (OTHER_TIE,))), (plain.plain_lay, (GRID_FOUR, ())),
    (plainchecker.lets_plain, (SQUARE, (OTHER_TIE,), LAY)), (falls.fallen, (SQUARE, (), LAY)),
    (falls.joined, (SQUARE, LAY, PLAIN)), (falls.joined, (SQUARE, PLAIN, LAY)), (nears.near_ties, (GRID_THREE,)),
    (distances.fewest, (SQUARE, LAY, PLAIN)), (distances.fewest, (SQUARE, LAY, LAY)),
    (farchecker.lets_far, (SQUARE, LAY, PLAIN, FARS)), (farpapers.far_paper, (SQUARE, LAY, PLAIN)),
    (farpapers.far_paper, (SQUARE, LAY, LAY)), (rings.ring_triangles, (RING,)), (rings.ring_count, (RING,)),
    (ringchecker.lets_ring, (RING, RING_PAPER)), (ringpapers.ring_paper, (RING,)),
    (ringleasts.ring_least, (RING, WEIGHTS)), (webs.web_row, (SQUARE,)), (webchecker.lets_web, (SPOT, WEB_PAPER)),
    (webpapers.web_paper, (SQUARE,)), (readings.read_points, ("0,0 4,-1",)), (readings.read_ties, ("0,0/4,-1",)),
    (readings.read_triangles, ("0,0/4,-1/5,3",)), (readings.read_ring, (["ring", "0 2 1"],)))

LOOKS = (
    fractions.is_number, fractions.is_fraction, points.is_point, fields.is_field,
    lambda thing: ties.is_tie(GRID_THREE, thing), lambda thing: triangles.is_triangle(GRID_THREE, thing),
    lambda thing: menus.is_menu(SQUARE, thing), lambda thing: fronts.is_front(SQUARE, thing),
    lambda thing: turns.can_turn(SQUARE, LAY, thing), rings.is_ring)


def refusal(ask, things):
    """The fields with which a checker refuses; what it tells else."""
    try:
        return ask(*things)
    except LayError as error:
        return vars(error)


CHECKERS = (
    lambda thing: refusal(laychecker.lets_lay, (SQUARE, thing)),
    lambda thing: refusal(countchecker.lets_count, (SQUARE, LAY, thing)),
    lambda thing: refusal(boundchecker.lets_bound, (SQUARE, WEIGHTS, LAY, thing)),
    lambda thing: refusal(plainchecker.lets_plain, (SQUARE, (OTHER_TIE,), thing)),
    lambda thing: refusal(turns.turned, (SQUARE, LAY, thing)),
    lambda thing: refusal(farchecker.lets_far, (SQUARE, LAY, PLAIN, thing)),
    lambda thing: refusal(ringchecker.lets_ring, (RING, thing)),
    lambda thing: refusal(webchecker.lets_web, (SPOT, thing)),
    lambda thing: refusal(keeping.Keeper(SQUARE).put, (thing,)),
    lambda thing: refusal(keeping.Keeper(SQUARE).take, (thing,)),
    lambda thing: refusal(keeping.Keeper(SQUARE).wall, (thing,)),
    lambda thing: refusal(keeping.Keeper(SQUARE).unwall, (thing,)))

TELLS = (fields.hull, fields.hull_area, fields.lower, fields.upper, ties.ties, triangles.triangles)


def right_things():
    """Things that some look lets by, and such with a list in them."""
    return [
        3, (1, 2), TIE, list(TIE), SPOT, list(SPOT), GRID_THREE, ([0, 0], [0, 1], [1, 0]), [[0, 0], [1, 1]], LAY,
        list(LAY), (SPOT, list(SQUARE[1:])), LAY[::-1], LAY[:1], LOWER, list(LOWER), PAPER, list(PAPER), PAPER[1:],
        PAPER[:2] + ([LOWER, 0, 1],), PAPER[:2] + ((list(LOWER), 0, 1),), PAPER[:2] + ((LOWER, 0, 2),), BOUNDS,
        list(BOUNDS), BOUNDS[1:], BOUNDS[:2] + ([LOWER, 10],), BOUNDS[:2] + ((list(LOWER), 10),), BOUNDS + BOUNDS,
        OTHER_TIE, list(OTHER_TIE), (list(OTHER_TIE[0]), OTHER_TIE[1]), FARS, list(FARS), (1, [(PLAIN, 0)]),
        (1, ([PLAIN, 0],)), (1, ((list(PLAIN), 0),)), RING, list(RING), ([0, 0],) + RING[1:], RING_PAPER,
        list(RING_PAPER), RING_PAPER[:2] + ([0, 3, 2],), RING_PAPER[1:], WEB_PAPER, list(WEB_PAPER), WEB_PAPER[:2],
        WEB_PAPER[:3] + ([*WEB_PAPER[3]],), (((), [1], ("none",)),), (((), (1,), ["none"]),), (5, 5), [5, 5]]


class InterfaceTests(unittest.TestCase):

    def test_names_and_order_of_arguments(self):
        for module, name, arguments in INTERFACE:
            found = inspect.signature(getattr(module, name)).parameters
            self.assertEqual(tuple(found), arguments, name)
            self.assertTrue(all(one.default is one.empty for one in found.values()), name)


class HandedInTests(unittest.TestCase):

    def test_things_looked_at_stay(self):
        for look in LOOKS:
            for thing in no_points() + right_things():
                before = copy.deepcopy(thing)
                first = look(thing)
                self.assertEqual(repr(thing), repr(before))
                self.assertIs(look(thing), first)
                self.assertIs(look(before), first)
                self.assertIs(first.__class__, bool)

    def test_things_that_checkers_look_at_stay(self):
        for look in CHECKERS:
            for thing in no_points() + right_things():
                before = copy.deepcopy(thing)
                first = look(thing)
                self.assertEqual(repr(thing), repr(before))
                self.assertEqual(repr(look(thing)), repr(first))
                self.assertEqual(repr(look(before)), repr(first))

    def test_fields_stay(self):
        for tell in TELLS:
            for field in FIELDS[:20]:
                before = repr(field)
                tell(field)
                self.assertEqual(repr(field), before)

    def test_other_things_handed_in_stay(self):
        for ask, things in ASKINGS:
            before = repr(things)
            ask(*things)
            self.assertEqual(repr(things), before)


class RefusalTests(unittest.TestCase):

    def test_a_new_refusal_each_time(self):
        for ask, things, kind in ((laychecker.lets_lay, (SQUARE, ()), NoPaper), (tielays.lay_of, (SQUARE, ()), NoLay),
                                  (countchecker.lets_count, (SQUARE, LAY, ()), NoPaper),
                                  (boundchecker.lets_bound, (SQUARE, WEIGHTS, LAY, BOUNDS[:2]), NoPaper),
                                  (numbering.lay_at, (SQUARE, ALL, 2), NoLay),
                                  (numbering.place_of, (SQUARE, ALL[:1], LAY), NoLay),
                                  (leasts.least, (SQUARE, WEIGHTS, ()), NoLay),
                                  (turns.turned, (SQUARE, LAY, TIE), NoTie),
                                  (plain.plain_lay, (SQUARE, (TIE, OTHER_TIE)), Crossed),
                                  (plainchecker.lets_plain, (SQUARE, (TIE,), LAY), NoPaper),
                                  (farchecker.lets_far, (SQUARE, LAY, PLAIN, (2, ((PLAIN, 0),))), NoPaper),
                                  (ringchecker.lets_ring, (RING, RING_PAPER[1:]), NoPaper),
                                  (webchecker.lets_web, (SPOT, WEB_PAPER[:2]), NoPaper),
                                  (keeping.Keeper(SQUARE).put, ((0, 0),), NoPoint),
                                  (keeping.Keeper(SQUARE).back, (), NoStep),
                                  (readings.read_points, ("x",), NoText), (desk.Desk().say, ("points",), NoRow)):
            found = []
            for step in range(2):
                with self.assertRaises(kind) as caught:
                    ask(*things)
                found.append(caught.exception)
            self.assertIsNot(found[0], found[1])
            self.assertEqual(vars(found[0]), vars(found[1]))

    def test_what_was_refused_changes_no_answer(self):
        for look in CHECKERS:
            right = [repr(look(thing)) for thing in RIGHT]
            for thing in no_points() + right_things():
                look(thing)
            self.assertEqual([repr(look(thing)) for thing in RIGHT], right)


class AnsweredAlikeTests(unittest.TestCase):

    def test_repeated(self):
        for ask, things in ASKINGS:
            self.assertEqual(repr(ask(*things)), repr(ask(*things)))
        for tell in TELLS:
            for field in FIELDS[:20]:
                self.assertEqual(repr(tell(field)), repr(tell(field)))

    def test_whatever_was_asked_before(self):
        for tell in TELLS:
            first = tell(GRID_FOUR)
            kept = repr(first)
            for field in (OUTERMOST, SQUARE, SPOT):
                tell(field)
            self.assertEqual(tell(GRID_FOUR), first)
            self.assertEqual(repr(first), kept)

    def test_told_things_hold_tuples_and_numbers_alone(self):
        def look(thing):
            if thing.__class__ is tuple:
                for part in thing:
                    look(part)
            elif thing not in ("none", "split", "beside"):
                self.assertIs(thing.__class__, int)

        for tell in TELLS:
            for field in FIELDS:
                look(tell(field))
        for name in ("fraction", "corner", "side", "area", "far"):
            module = fractions if name == "fraction" else points
            things = (6, -4) if name == "fraction" else THREE[:2] if name == "far" else THREE
            look(getattr(module, name)(*things))
        look(triangles.least_corner(SPOT))
        look(ties.crossing(SQUARE, TIE))
        for ask, things in ASKINGS:
            told = ask(*things)
            if told.__class__ is list:
                look(tuple(told))
            elif told.__class__ is not bool:
                look(told)
