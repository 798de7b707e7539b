"""A desk: a keeper that is told rows, and answers each with a text."""

from threelays.counting import count
from threelays.errors import NoRow, TooMany
from threelays.fields import is_field
from threelays.keeping import Keeper, are_near
from threelays.menus import with_ties
from threelays.numbering import lay_at
from threelays.rings import is_ring, ring_count
from threelays.texts import shown_numbers, shown_points, shown_ties, shown_triangles
from threelays.webs import web_row
from threelays.words import corners_of, misplaced, point_of, points_of

MOST_TO_COUNT = 9
MOST_FOR_WEBS = 6
MOST_IN_RING = 12


def is_known(words):
    """Tell whether words are a row that a desk with a keeper knows."""
    if misplaced("desk row", words) >= 0:
        return False
    if words[0] not in ("field", "ring"):
        return True
    points = points_of(words[1:])
    return are_near(points) and (is_field(points) if words[0] == "field" else is_ring(points))


def look_at_many(points, most):
    """Refuse more POINTS than so many."""
    if len(points) > most:
        raise TooMany("points")


def menu_of(keeper):
    """Tell the MENU of all TRIANGLES of a keeper's POINTS that none of its WALLS parts."""
    look_at_many(keeper.points(), MOST_TO_COUNT)
    return with_ties(keeper.points(), keeper.walls())


def shown_deed(told):
    """Tell the text of what a deed told."""
    went, came = told
    return "went " + shown_triangles(went) + "; came " + shown_triangles(came)


def say_points(keeper, words):
    """Tell a keeper's POINTS."""
    return shown_points(keeper.points())


def say_walls(keeper, words):
    """Tell a keeper's WALLS."""
    return shown_ties(keeper.walls())


def say_lay(keeper, words):
    """Tell a keeper's LAY."""
    return shown_triangles(keeper.lay())


def say_put(keeper, words):
    """Put a POINT in."""
    return shown_deed(keeper.put(point_of(words[1])))


def say_take(keeper, words):
    """Take a POINT away."""
    return shown_deed(keeper.take(point_of(words[1])))


def say_wall(keeper, words):
    """Make a TIE a WALL."""
    return shown_deed(keeper.wall(corners_of(words[1])))


def say_unwall(keeper, words):
    """Make a WALL a TIE like others."""
    return shown_deed(keeper.unwall(corners_of(words[1])))


def say_back(keeper, words):
    """Take a deed back."""
    return shown_deed(keeper.back())


def say_count(keeper, words):
    """Tell how many LAYS have all WALLS."""
    menu = menu_of(keeper)
    return str(count(keeper.points(), menu))


def say_at(keeper, words):
    """Tell the LAY of a number among those that have all WALLS."""
    menu = menu_of(keeper)
    return shown_triangles(lay_at(keeper.points(), menu, int(words[1])))


def say_webs(keeper, words):
    """Tell the WEB ROW of a keeper's POINTS."""
    look_at_many(keeper.points(), MOST_FOR_WEBS)
    return shown_numbers(web_row(keeper.points()))


def say_ring(keeper, words):
    """Tell how many LAYS a RING has, whatever the keeper keeps."""
    ring = points_of(words[1:])
    look_at_many(ring, MOST_IN_RING)
    return str(ring_count(ring))


ANSWERS = {
    "points": say_points, "walls": say_walls, "lay": say_lay, "put": say_put, "take": say_take, "wall": say_wall,
    "unwall": say_unwall, "back": say_back, "count": say_count, "at": say_at, "webs": say_webs, "ring": say_ring,
}


class Desk:
    """It keeps a keeper, at first none."""

    def __init__(self):
        self.keeper = None

    def say(self, row):
        """Answer a row with a text; NoRow where it is none that is known."""
        words = row.split(" ")
        if not is_known(words):
            raise NoRow(row)
        if words[0] == "field":
            self.keeper = Keeper(points_of(words[1:]))
            return "ok"
        if self.keeper is None:
            raise NoRow(row)
        answer = ANSWERS[words[0]]
        return answer(self.keeper, words)
