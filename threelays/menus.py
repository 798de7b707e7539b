"""MENUS: TRIANGLES that LAYS may have."""

from threelays.fractions import less
from threelays.points import far, rises
from threelays.ties import cross
from threelays.triangles import is_triangle, least_corner, over, sides_of, triangles


def is_menu(field, thing):
    """Tell whether a thing is a MENU of a FIELD."""
    if not isinstance(thing, tuple):
        return False
    return all(is_triangle(field, three) for three in thing) and rises(thing)


def is_crossed(triangle, some):
    """Tell whether a side of a TRIANGLE CROSSES one of some TIES."""
    return any(cross(own, tie) for own in sides_of(triangle) for tie in some)


def with_ties(field, some):
    """Tell the MENU of a FIELD whose LAYS are those that have all of some TIES."""
    return tuple([triangle for triangle in triangles(field) if not is_crossed(triangle, some)])


def without_ties(field, some):
    """Tell the MENU of a FIELD whose LAYS are those that have none of some TIES."""
    return tuple([triangle for triangle in triangles(field) if not any(own in some for own in sides_of(triangle))])


def is_covered(triangle, some):
    """Tell whether a TRIANGLE lies OVER another one of some TRIANGLES."""
    return any(other != triangle and over(triangle, other) for other in some)


def with_triangles(field, some):
    """Tell the MENU of a FIELD whose LAYS are those that have all of some TRIANGLES."""
    return tuple([triangle for triangle in triangles(field) if not is_covered(triangle, some)])


def no_longer(field, most):
    """Tell the MENU of a FIELD whose LAYS have only TIES with squares of at most so much."""
    return tuple([triangle for triangle in triangles(field) if all(far(a, b) <= most for a, b in sides_of(triangle))])


def is_greater(one, other, strict):
    """Tell whether the one FRACTION is greater than the other; or, asked strictly, the same or greater."""
    return not less(one, other) if strict else less(other, one)


def corners_from(field, corner, strict):
    """Tell the MENU of a FIELD whose LAYS have no CORNER of a greater FRACTION; strictly, nor of the same one."""
    return tuple([three for three in triangles(field) if not is_greater(least_corner(three), corner, strict)])
