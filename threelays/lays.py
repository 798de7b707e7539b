"""What is told of a LAY: its TIES, the POINTS across them, its least CORNER, its LIFT, its weight."""

from threelays.fractions import greatest
from threelays.points import area
from threelays.ties import hull_ties, ties
from threelays.triangles import least_corner, sides_of


def ties_of(lay):
    """Tell the TIES of a LAY, rising."""
    return tuple(sorted({tie for triangle in lay for tie in sides_of(triangle)}))


def inner(field, lay):
    """Tell the INNER TIES of a LAY of a FIELD, rising."""
    rim = hull_ties(field)
    return tuple([tie for tie in ties_of(lay) if tie not in rim])


def opposite(lay, tie):
    """Tell the POINTS across a TIE in a LAY, rising; () where the LAY hasn't the TIE."""
    beside = [triangle for triangle in lay if tie in sides_of(triangle)]
    return tuple(sorted([point for triangle in beside for point in triangle if point not in tie]))


def least_of(lay):
    """Tell the least CORNER of a LAY: the greatest FRACTION."""
    return greatest([least_corner(triangle) for triangle in lay])


def lifted(triangle):
    """Tell the AREA of a TRIANGLE times the sum of x x + y y over its POINTS."""
    a, b, c = triangle
    return area(a, b, c) * sum(x * x + y * y for x, y in triangle)


def lift(lay):
    """Tell the LIFT of a LAY."""
    return sum(lifted(triangle) for triangle in lay)


def weights_by_ties(field, weights):
    """Tell the WEIGHTS of a FIELD as a dict of its TIES."""
    return dict(zip(ties(field), weights))


def weight(field, weights, lay):
    """Tell the weight of a LAY of a FIELD by its WEIGHTS."""
    by_ties = weights_by_ties(field, weights)
    return sum(by_ties[tie] for tie in ties_of(lay))
