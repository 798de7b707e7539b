"""The LAYS whose longest TIE is the shortest, and whose least CORNER is the greatest."""

from threelays.lays import least_of, ties_of
from threelays.leasts import least_lay
from threelays.menus import corners_from, no_longer
from threelays.points import far
from threelays.ties import ties
from threelays.triangles import triangles


def some_lay(field, menu):
    """Tell any LAY OF A MENU; () where there is none."""
    return least_lay(field, tuple([0 for tie in ties(field)]), menu)


def longest_of(lay):
    """Tell the LONGEST of a LAY: the greatest of its TIES' squares."""
    return max([far(a, b) for a, b in ties_of(lay)])


def least_longest(field):
    """Tell the least LONGEST of all LAYS of a FIELD, and a LAY that has it."""
    best = some_lay(field, triangles(field))
    other = best
    while other != ():
        best = other
        other = some_lay(field, no_longer(field, longest_of(best) - 1))
    return (longest_of(best), best)


def greatest_corner(field):
    """Tell the FRACTION of the greatest least CORNER that a LAY of a FIELD has, and a LAY that has it."""
    best = some_lay(field, triangles(field))
    other = best
    while other != ():
        best = other
        other = some_lay(field, corners_from(field, least_of(best), True))
    return (least_of(best), best)
