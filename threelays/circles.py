"""CIRCLES through three POINTS, PLAIN TIES and EMPTY LAYS."""

from threelays.lays import opposite
from threelays.points import far, side, signed_area


def circle(corners, point):
    """Tell where a POINT lies by the CIRCLE through three: 1 within, 0 on it, -1 without."""
    a, b, c = corners
    # The POINTS lifted by x x + y y, seen from the one asked for: it lies below their plane just where it is within.
    depth = far(point, a) * signed_area(point, b, c)
    depth += far(point, b) * signed_area(point, c, a)
    depth += far(point, c) * signed_area(point, a, b)
    if depth == 0:
        return 0
    return side(a, b, c) if depth > 0 else -side(a, b, c)


def is_plain(field, lay, tie):
    """Tell whether an INNER TIE of a LAY of a FIELD is PLAIN."""
    one, other = opposite(lay, tie)
    where = circle(tuple(sorted(tie + (one,))), other)
    # Both pairs rise, so the least of the four is the first of the one or of the other.
    return where == -1 or (where == 0 and tie[0] < one)


def is_empty(field, lay):
    """Tell whether no POINT of a FIELD lies within the CIRCLE of a TRIANGLE of a LAY of it."""
    return not any(circle(triangle, point) == 1 for triangle in lay for point in field)
