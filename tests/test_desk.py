"""[85], [86]: a desk."""

import random
import unittest

from tests.roundtrying import HOOK, RINGS, bowl_ring, tried_is_ring
from tests.samples import (
    CIRCLE, GRID_FOUR, GRID_THREE, LAST_OFF, NINES, SIXTEEN, SPOT, SQUARE, WHEEL, bowl, made_field)
from tests.texttrying import RIGHT_WORDS, WRONG_WORDS, is_whole
from tests.webtrying import SIXES
from threelays.counting import count
from threelays.desk import Desk
from threelays.errors import Crossed, LayError, NoLay, NoPoint, NoRow, NoStep, NoTie, TooMany
from threelays.keeping import Keeper
from threelays.menus import with_ties
from threelays.numbering import lay_at
from threelays.rings import ring_count
from threelays.texts import shown_points, shown_ties, shown_triangles
from threelays.ties import ties
from threelays.triangles import triangles
from threelays.webs import web_row

FIELD = "field 0,0 0,1 1,0 1,1"
LAY = "0,0/0,1/1,1 0,0/1,0/1,1"
# Each row that a desk knows but the first, all of them done or answered in the square.
ROWS = ("points", "walls", "lay", "put 2,2", "take 2,2", "wall 0,0/1,1", "unwall 0,0/1,1", "back", "count", "at 0",
        "webs", "ring 0,0 1,0 0,1")
FAR_ROWS = ("put 1001,0", "take 5,5", "wall 0,0/9,9", "unwall 0,0/9,9", "at -1", "at 7")


def answer(desk, row):
    """The text of the answer; the class and the fields where it is refused."""
    try:
        return desk.say(row)
    except LayError as error:
        return error.__class__, tuple(vars(error).values())


def shown(desk):
    return desk.say("points"), desk.say("walls"), desk.say("lay")


def of_square(*rows):
    """A desk with a keeper of the square, to which some rows are told."""
    desk = Desk()
    for row in (FIELD,) + rows:
        desk.say(row)
    return desk


class WithoutKeeperTests(unittest.TestCase):

    def test_any_row_but_the_first(self):
        for row in ROWS + FAR_ROWS + ("", "x", "ok"):
            desk = Desk()
            with self.assertRaises(NoRow) as caught:
                desk.say(row)
            self.assertEqual(vars(caught.exception), {"row": row})
            self.assertIs(caught.exception.row, row)

    def test_a_field_that_is_refused(self):
        desk = Desk()
        for row, told in (("field 0,0 0,1", NoRow), ("field " + shown_points(bowl(17)), TooMany), ("field", NoRow)):
            self.assertIs(answer(desk, row)[0], told)
            self.assertEqual(answer(desk, "points"), (NoRow, ("points",)))
        self.assertEqual(desk.say(FIELD), "ok")

    def test_two_desks(self):
        one, other = Desk(), Desk()
        one.say(FIELD)
        self.assertEqual(answer(other, "points"), (NoRow, ("points",)))

    def test_the_method_stands_in_the_class(self):
        self.assertIn("say", vars(Desk))
        self.assertEqual(Desk().say(row=FIELD), "ok")


class FieldTests(unittest.TestCase):

    def test_a_new_keeper(self):
        desk = of_square("put 5,5", "wall 0,1/1,0")
        self.assertEqual(desk.say("field 0,0 0,1 1,0"), "ok")
        self.assertEqual(shown(desk), ("0,0 0,1 1,0", "-", "0,0/0,1/1,0"))
        self.assertEqual(answer(desk, "back"), (NoStep, ()))

    def test_fields(self):
        for field in (SPOT, SQUARE, GRID_THREE, LAST_OFF, WHEEL) + SIXTEEN:
            desk = Desk()
            self.assertEqual(desk.say("field " + shown_points(field)), "ok")
            self.assertEqual(shown(desk), (shown_points(field), "-", shown_triangles(Keeper(field).lay())))

    def test_no_fields(self):
        desk = of_square("wall 0,1/1,0")
        kept = shown(desk)
        for row in ("field", "field ", "field -", "field 0,0", "field 0,0 1,0", "field 0,0 0,1 0,2",
                    "field 0,1 0,0 1,0", "field 0,0 0,0 0,1 1,0", "field 0,0 0,1 1001,0", "field -1001,0 0,0 0,1",
                    "field 0,-1001 0,0 1,0",
                    "field 0,0 0,1001 1,0", "field 0,0 0,1 1,0 ", "field  0,0 0,1 1,0", " field 0,0 0,1 1,0",
                    "field 0,0 0,1 1,0 -", "field 0,0 0,1 01,0", "field 0,0/0,1/1,0", "Field 0,0 0,1 1,0",
                    "field 0,0,0,1,1,0", "field 0,0 0,1 1", "fields 0,0 0,1 1,0", "0,0 0,1 1,0"):
            self.assertEqual(answer(desk, row), (NoRow, (row,)))
            self.assertEqual(shown(desk), kept)
        self.assertEqual(desk.say("field -1000,-1000 -1000,1000 1000,0"), "ok")

    def test_too_many(self):
        desk = of_square("wall 0,1/1,0")
        kept = shown(desk)
        for many in (17, 20, 30):
            self.assertEqual(answer(desk, "field " + shown_points(bowl(many))), (TooMany, ("points",)))
            self.assertEqual(shown(desk), kept)
        # No field goes ahead of too many.
        far = "field " + shown_points(tuple((x, x * x) for x in range(33)))
        self.assertEqual(answer(desk, far), (NoRow, (far,)))
        self.assertEqual(answer(desk, "back")[:4], "went")

    def test_the_old_keeper_stays_with_its_deeds(self):
        desk = of_square("put 2,2")
        answer(desk, "field " + shown_points(bowl(17)))
        answer(desk, "field 0,0")
        desk.say("back")
        self.assertEqual(desk.say("points"), "0,0 0,1 1,0 1,1")


class DeedTests(unittest.TestCase):

    def test_told_ones(self):
        desk = Desk()
        for row, told in (
                ("field 0,0 0,1 1,0", "ok"), ("points", "0,0 0,1 1,0"), ("walls", "-"), ("lay", "0,0/0,1/1,0"),
                ("put 1,1", "went 0,0/0,1/1,0; came " + LAY), ("lay", LAY), ("wall 0,0/1,1", "went -; came -"),
                ("walls", "0,0/1,1"), ("unwall 0,0/1,1", "went -; came -"),
                ("wall 0,1/1,0", "went " + LAY + "; came 0,0/0,1/1,0 0,1/1,0/1,1"), ("count", "1"),
                ("at 0", "0,0/0,1/1,0 0,1/1,0/1,1"), ("back", "went 0,0/0,1/1,0 0,1/1,0/1,1; came " + LAY),
                ("take 1,1", "went " + LAY + "; came 0,0/0,1/1,0"), ("back", "went 0,0/0,1/1,0; came " + LAY),
                ("count", "2"), ("webs", "1 6 14 16 9 2"), ("ring 0,0 1,0 1,1 0,1", "2")):
            self.assertEqual(desk.say(row), told, row)

    def test_refusals(self):
        full = "field " + shown_points(tuple((3 * x, 3 * y) for x, y in GRID_FOUR))
        for rows, row, told in (
                ((), "put 1001,0", (NoPoint, ("far",))), ((), "put 0,-1001", (NoPoint, ("far",))),
                ((), "put 0,0", (NoPoint, ("there",))),
                (("put 4,4", "take 1,1", "wall 0,0/4,4"), "put 2,2", (NoPoint, ("wall",))),
                ((full,), "put 1,2", (TooMany, ("points",))), ((), "take 5,5", (NoPoint, ("lacks",))),
                ((), "take 999999999999,0", (NoPoint, ("lacks",))),
                (("wall 0,0/1,1",), "take 1,1", (NoPoint, ("wall",))),
                (("take 1,1",), "take 0,0", (NoPoint, ("line",))), ((), "wall 0,0/5,5", (NoTie, ("shape",))),
                (("put 2,2",), "wall 0,0/2,2", (NoTie, ("shape",))),
                (("wall 0,0/1,1",), "wall 0,0/1,1", (NoTie, ("there",))),
                (("wall 0,0/1,1",), "wall 0,1/1,0", (Crossed, (((0, 0), (1, 1)),))),
                ((), "unwall 0,0/1,1", (NoTie, ("lacks",))), ((), "unwall 0,0/7,7", (NoTie, ("lacks",))),
                ((), "back", (NoStep, ())), ((), "at -1", (NoLay, ())), ((), "at 2", (NoLay, ())),
                ((), "at 999999999999", (NoLay, ())), (("wall 0,0/1,1",), "at 1", (NoLay, ()))):
            desk = of_square(*rows)
            kept = shown(desk)
            self.assertEqual(answer(desk, row), told, row)
            self.assertEqual(answer(desk, row), told, row)
            self.assertEqual(shown(desk), kept)

    def test_wrong_rows(self):
        desk = of_square("put 3,1", "wall 0,0/1,1")
        kept = shown(desk)
        rows = ["", " ", "x", "ok", "POINTS", "Points", "points ", " points", "points points", "points 0", "point",
                "walls -", "lay 0", "laypoints", "put", "put ", "put 5", "put 5,5 6,6", "put -", "put 5,5,5",
                "put 05,5", "put 5, 5", "put  5,5", "put 5,5 ", "put 5,5/6,6", "put (5,5)", "put +5,5",
                "put 1000000000000,0", "take", "take 0,0/1,1", "take 0,0 0,1", "take -0,0", "wall", "wall 0,0",
                "wall 1,1/0,0", "wall 0,0/0,0", "wall 0,0/1,0/1,1", "wall 0,0 1,1", "wall -", "wall 0,0/1,1 ",
                "unwall", "unwall 1,1/0,0", "unwall -", "unwall 0,0/1,1 0,0/0,1", "back 1", "back ", "backs",
                "count 1", "count ", "counts", "at", "at ", "at x", "at 00", "at -0", "at 0 0", "at +0",
                "at 1000000000000", "at 0,0", "at -", "webs 1", "web", "webs ", "ring", "ring -", "ring ", "ring 0,0",
                "ring 0,0 1,0", "ring 0,0 1,0 2,0", "ring 0,0 0,1 1,0", "ring 1,0 0,1 0,0", "ring 0,0 1,0 0,1 0,0",
                "ring 0,0 1,1 1,0 0,1", "ring 0,0 1001,0 0,1", "ring 0,0 1,0 0,1001", "ring 0,0 1,0 0,1 ",
                "ring  0,0 1,0 0,1", "ring 0,0/1,0/0,1", "say points", "None", "went -; came -", "field", "desk row",
                "end", "~", "x" * 4000, " " * 4000]
        for row in rows:
            self.assertEqual(answer(desk, row), (NoRow, (row,)), row)
            self.assertEqual(shown(desk), kept)

    def test_each_word_in_each_place(self):
        for row in ROWS:
            words = row.split(" ")
            for other in RIGHT_WORDS + WRONG_WORDS:
                for made in [words + [other], [other] + words, words[:-1] + [other]]:
                    text = " ".join(made)
                    desk = of_square()
                    known = wanted_row(text)
                    found = answer(desk, text)
                    self.assertEqual(found[0] is NoRow, not known, text)
                    if not known:
                        self.assertEqual(found, (NoRow, (text,)))

    def test_long_rows(self):
        desk = of_square()
        for row in ("put " + "1" * 3000 + ",0", "ring" + " 0,0" * 900, "field" + " 0,0" * 900):
            self.assertEqual(answer(desk, row), (NoRow, (row,)))


def wanted_row(text):
    """Whether a desk with a keeper knows a row, none of a field."""
    words = text.split(" ")
    if words[0] in ("points", "walls", "lay", "back", "count", "webs"):
        return len(words) == 1
    kinds = {"put": "points", "take": "points", "wall": "ties", "unwall": "ties"}
    if len(words) == 2 and words[0] in kinds:
        return words[1] != "-" and is_whole(kinds[words[0]], words[1:])
    if len(words) == 2 and words[0] == "at":
        return is_whole("ring row", [words[1], "0", "0"])
    if words[0] != "ring" or not is_whole("points", words[1:]) or "-" in words:
        return False
    points = tuple(tuple(map(int, word.split(","))) for word in words[1:])
    return tried_is_ring(points) and all(abs(part) <= 1000 for point in points for part in point)


class TellsTests(unittest.TestCase):

    def test_counts(self):
        for field in NINES[:24]:
            desk = Desk()
            desk.say("field " + shown_points(field))
            self.assertEqual(desk.say("count"), str(count(field, triangles(field))))

    def test_counts_and_lays_with_walls(self):
        source = random.Random(86)
        for field in NINES[7:30]:
            desk = Desk()
            desk.say("field " + shown_points(field))
            for tie in source.sample(ties(field), min(4, len(ties(field)))):
                answer(desk, "wall " + shown_ties((tie,)))
            walls = tuple(tie for tie in ties(field) if shown_ties((tie,)) in desk.say("walls").split(" "))
            menu = with_ties(field, walls)
            many = count(field, menu)
            kept = shown(desk)
            self.assertEqual(desk.say("count"), str(many))
            for number in sorted({0, many // 2, many - 1}):
                self.assertEqual(desk.say(f"at {number}"), shown_triangles(lay_at(field, menu, number)))
            self.assertEqual(answer(desk, f"at {many}"), (NoLay, ()))
            self.assertEqual(answer(desk, "at -1"), (NoLay, ()))
            self.assertEqual(shown(desk), kept)

    def test_bounds_of_nine(self):
        desk = Desk()
        desk.say("field " + shown_points(GRID_THREE))
        self.assertEqual(desk.say("count"), str(count(GRID_THREE, triangles(GRID_THREE))))
        desk.say("put 5,1")
        for row in ("count", "at 0", "at -1", "at 999999999999"):
            self.assertEqual(answer(desk, row), (TooMany, ("points",)))
        desk.say("back")
        self.assertEqual(desk.say("at 0"), shown_triangles(lay_at(GRID_THREE, triangles(GRID_THREE), 0)))

    def test_bounds_of_six(self):
        for field in SIXES:
            desk = Desk()
            desk.say("field " + shown_points(field))
            self.assertEqual(desk.say("webs"), " ".join(map(str, web_row(field))))
        for many in (7, 9, 16):
            desk = Desk()
            desk.say("field " + shown_points(bowl(many)))
            self.assertEqual(answer(desk, "webs"), (TooMany, ("points",)))
        # Walls change nothing of it.
        desk = of_square("wall 0,0/1,1")
        self.assertEqual(desk.say("webs"), "1 6 14 16 9 2")

    def test_rings(self):
        desk = of_square()
        for ring in RINGS + (bowl_ring(12), HOOK):
            self.assertEqual(desk.say("ring " + shown_points(ring)), str(ring_count(ring)))
        self.assertEqual(desk.say("ring " + shown_points(bowl_ring(12))), "16796")
        self.assertEqual(desk.say("ring -1000,-1000 1000,-1000 1000,1000 -1000,1000"), "2")
        self.assertEqual(shown(desk), shown(of_square()))

    def test_bounds_of_twelve(self):
        desk = of_square()
        for many in (13, 20, 32):
            self.assertEqual(answer(desk, "ring " + shown_points(bowl_ring(many))), (TooMany, ("points",)))
        # No ring, or one that reaches too far, goes ahead of too many.
        for ring in (bowl_ring(13)[::-1], bowl_ring(33)):
            row = "ring " + shown_points(ring)
            self.assertEqual(answer(desk, row), (NoRow, (row,)))

    def test_askings_repeated(self):
        desk = of_square("put 3,1", "wall 0,0/1,1")
        for row in ("points", "walls", "lay", "count", "at 1", "webs", "ring 0,0 1,0 0,1", "at 99", "put 0,0", "x"):
            self.assertEqual(answer(desk, row), answer(desk, row))


class ManyRowsTests(unittest.TestCase):

    def test_as_a_keeper_tells(self):
        source = random.Random(85)
        for field in (SPOT, SQUARE, GRID_THREE, CIRCLE[:10], made_field(8, 9, 3)):
            desk, keeper = Desk(), Keeper(field)
            desk.say("field " + shown_points(field))
            for step in range(60):
                deed = source.choice(("put", "put", "take", "wall", "wall", "unwall", "back"))
                things = []
                if deed in ("put", "take"):
                    things = [source.choice(keeper.points() + ((source.randint(-4, 4), source.randint(-4, 4)),) * 9)]
                elif deed != "back":
                    things = [source.choice(ties(keeper.points()) + keeper.walls() * 4)]
                text = shown_points(tuple(things)) if deed in ("put", "take") else shown_ties(tuple(things))
                try:
                    went, came = getattr(keeper, deed)(*things)
                    wanted = f"went {shown_triangles(went)}; came {shown_triangles(came)}"
                except LayError as error:
                    wanted = error.__class__, tuple(vars(error).values())
                self.assertEqual(answer(desk, deed if deed == "back" else deed + " " + text), wanted)
                self.assertEqual(shown(desk), (shown_points(keeper.points()), shown_ties(keeper.walls()),
                                               shown_triangles(keeper.lay())))
