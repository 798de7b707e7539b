"""TRIANGLES of a FIELD, and which of them lie OVER one another."""

from threelays.fields import are_points_of
from threelays.fractions import greatest
from threelays.points import corner, side


def has_on_it(three, point):
    """Tell whether a POINT lies within three POINTS that are not on one line, or on a side of them."""
    a, b, c = three
    outward = -side(a, b, c)
    return outward not in (side(a, b, point), side(b, c, point), side(c, a, point))


def is_void(field, three):
    """Tell whether no other POINT of a FIELD lies within three of it, not on one line, or on a side of them."""
    return not any(point not in three and has_on_it(three, point) for point in field)


def is_flat(three):
    """Tell whether three POINTS are on one line."""
    return side(three[0], three[1], three[2]) == 0


def are_corners(field, thing):
    """Tell whether a thing is a rising tuple of three POINTS of a FIELD that are not on one line."""
    return are_points_of(field, thing, 3) and not is_flat(thing)


def is_triangle(field, thing):
    """Tell whether a thing is a TRIANGLE of a FIELD."""
    return are_corners(field, thing) and is_void(field, thing)


def triangles(field):
    """Tell all TRIANGLES of a FIELD, rising."""
    pairs = [(a, b, at) for a in field for at, b in enumerate(field) if a < b]
    threes = [(a, b, c) for a, b, at in pairs for c in field[at + 1:]]
    return tuple([three for three in threes if not is_flat(three) and is_void(field, three)])


def sides_of(triangle):
    """Tell the three sides of a TRIANGLE, rising."""
    a, b, c = triangle
    return ((a, b), (a, c), (b, c))


def ways_round(three):
    """Tell three POINTS three times, each one first once, in their order round."""
    a, b, c = three
    return ((a, b, c), (b, c, a), (c, a, b))


def side_parts(one, other):
    """Tell whether a side of the one has no POINT of the other on that hand on which the one lies."""
    for a, b, c in ways_round(one):
        inward = side(a, b, c)
        if not any(side(a, b, point) == inward for point in other):
            return True
    return False


def over(one, other):
    """Tell whether two TRIANGLES lie OVER one another."""
    # Of two convex places with nothing inner in common a side of the one or of the other parts them.
    return not side_parts(one, other) and not side_parts(other, one)


def least_corner(triangle):
    """Tell the least CORNER of a TRIANGLE: the greatest FRACTION."""
    return greatest([corner(a, b, c) for a, b, c in ways_round(triangle)])
