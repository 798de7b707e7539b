"""POINTS, and what is told of two and three of them."""

from threelays.fractions import fraction, is_number_pair


def is_point(thing):
    """Tell whether a thing is a POINT."""
    return is_number_pair(thing)


def steps(row):
    """Tell each two of a row that stand behind one another."""
    return list(zip(row, row[1:]))


def rises(row):
    """Tell whether a row rises, with nothing twice."""
    return all(one < other for one, other in steps(row))


def are_points(thing):
    """Tell whether a thing is a tuple of POINTS, perhaps of none."""
    return isinstance(thing, tuple) and all(is_point(point) for point in thing)


def are_rising_points(thing):
    """Tell whether a thing is a rising tuple of POINTS, perhaps of none."""
    # Truths compare like numbers, so each one's kind is asked before any are compared.
    return are_points(thing) and rises(thing)


def signed_area(a, b, c):
    """Tell the number of which the SIDE of three POINTS is the sign."""
    return (b[0] - a[0]) * (c[1] - a[1]) - (b[1] - a[1]) * (c[0] - a[0])


def side(a, b, c):
    """Tell the SIDE of three POINTS: 1 to the left, -1 to the right, 0 on the line."""
    number = signed_area(a, b, c)
    if number > 0:
        return 1
    if number < 0:
        return -1
    return 0


def area(a, b, c):
    """Tell the AREA of three POINTS, doubled and without a sign."""
    return abs(signed_area(a, b, c))


def dot(a, b, c):
    """Tell the product of both sides from a, to b and to c."""
    return (b[0] - a[0]) * (c[0] - a[0]) + (b[1] - a[1]) * (c[1] - a[1])


def far(a, b):
    """Tell how FAR two POINTS are from one another, squared."""
    return dot(a, b, b)


def corner(a, b, c):
    """Tell the CORNER at a of three POINTS that are not on one line."""
    return fraction(dot(a, b, c), area(a, b, c))
