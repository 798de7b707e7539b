"""NEAR TIES: pairs of POINTS with none that is nearer to both."""

from threelays.points import far
from threelays.ties import ties


def is_near(field, pair):
    """Tell whether no POINT of a FIELD is nearer to both of a pair than these are to one another."""
    a, b = pair
    length = far(a, b)
    return not any(far(a, point) < length and far(b, point) < length for point in field)


def near_ties(field):
    """Tell the NEAR TIES of a FIELD, rising."""
    # A POINT between two is nearer to both, so no pair but a TIE is one.
    return tuple([tie for tie in ties(field) if is_near(field, tie)])
