"""FIELDS, their HULLS, and the LOWER and the UPPER FRONT."""

from threelays.points import are_rising_points, area, side, steps


def is_field(thing):
    """Tell whether a thing is a FIELD."""
    if not are_rising_points(thing) or len(thing) < 3:
        return False
    # The first two are unlike, so they make the one line that all could be on.
    first = thing[0]
    second = thing[1]
    return any(side(first, second, point) != 0 for point in thing)


def are_points_of(field, thing, many):
    """Tell whether a thing is a rising tuple of so many POINTS of a FIELD."""
    if not are_rising_points(thing) or len(thing) != many:
        return False
    return all(point in field for point in thing)


def rim_front(field, barred):
    """Tell the FRONT on the rim that bends nowhere to the barred hand."""
    front = []
    for point in field:
        # A bend of 0 stays, as POINTS on straight parts of the rim belong to the HULL.
        while len(front) > 1 and side(front[-2], front[-1], point) == barred:
            front.pop()
        front.append(point)
    return tuple(front)


def lower(field):
    """Tell the LOWER FRONT of a FIELD."""
    return rim_front(field, -1)


def upper(field):
    """Tell the UPPER FRONT of a FIELD."""
    return rim_front(field, 1)


def hull(field):
    """Tell the HULL of a FIELD, from its least POINT on, the inner side on the left."""
    return lower(field)[:-1] + upper(field)[:0:-1]


def hull_area(field):
    """Tell the AREA of a FIELD's HULL, doubled."""
    rim = hull(field)
    first = rim[0]
    return sum(area(first, one, other) for one, other in steps(rim[1:]))
