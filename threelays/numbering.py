"""LAYS OF A MENU by their numbers: they rise by their LAYING ROWS."""

from threelays.counting import ways_on
from threelays.errors import NoLay
from threelays.fields import lower, upper
from threelays.fronts import advances, laying_row


def ways_behind(way, known):
    """Tell how many ways lead on to the UPPER FRONT behind an ADVANCE."""
    place, triangle, came = way
    return known[(came, place)]


def row_at(field, menu, number, known):
    """Tell the LAYING ROW of a number that some LAY OF A MENU has, all that count asks being known."""
    row = []
    left = number
    front = lower(field)
    mark = 0
    while front != upper(field):
        ways = advances(field, menu, front, mark)
        at = 0
        # All rows that go on by a lesser TRIANGLE here are lesser ones.
        while left >= ways_behind(ways[at], known):
            left -= ways_behind(ways[at], known)
            at += 1
        mark, triangle, front = ways[at]
        row.append(triangle)
    return row


def lay_at(field, menu, number):
    """Tell the LAY of a number among the LAYS OF A MENU; NoLay where there is none."""
    known = {}
    many = ways_on(field, menu, lower(field), 0, known)
    if number < 0 or number >= many:
        raise NoLay()
    return tuple(sorted(row_at(field, menu, number, known)))


def place_of(field, menu, lay):
    """Tell the number of a LAY among the LAYS OF A MENU; NoLay where it is none of these."""
    if not all(triangle in menu for triangle in lay):
        raise NoLay()
    known = {}
    ways_on(field, menu, lower(field), 0, known)
    number = 0
    front = lower(field)
    mark = 0
    for triangle in laying_row(field, lay):
        ways = advances(field, menu, front, mark)
        number += sum(ways_behind(way, known) for way in ways if way[1] < triangle)
        mark, taken, front = [way for way in ways if way[1] == triangle][0]
    return number
