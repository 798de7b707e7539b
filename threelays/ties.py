"""TIES of a FIELD, and which of them CROSS."""

from threelays.fields import are_points_of, lower, upper
from threelays.points import side, steps


def is_parted(field, pair):
    """Tell whether a POINT of a FIELD lies between two rising ones, on their straight line."""
    a, b = pair
    return any(a < point < b and side(a, b, point) == 0 for point in field)


def is_tie(field, thing):
    """Tell whether a thing is a TIE of a FIELD."""
    return are_points_of(field, thing, 2) and not is_parted(field, thing)


def ties(field):
    """Tell all TIES of a FIELD, rising."""
    pairs = [(a, b) for at, a in enumerate(field) for b in field[at + 1:]]
    return tuple([pair for pair in pairs if not is_parted(field, pair)])


def hull_ties(field):
    """Tell all HULL TIES of a FIELD, those of its LOWER FRONT ahead of the others."""
    return steps(lower(field)) + steps(upper(field))


def lie_on_both_hands(line, pair):
    """Tell whether the one of two POINTS lies to the left of a line, the other one to the right."""
    a, b = line
    return side(a, b, pair[0]) * side(a, b, pair[1]) == -1


def cross(one, other):
    """Tell whether two TIES of one FIELD CROSS."""
    # No POINT of the FIELD parts a TIE, so a place in common that is no common end is within both.
    return lie_on_both_hands(one, other) and lie_on_both_hands(other, one)


def crossing(field, tie):
    """Tell all TIES of a FIELD that CROSS a TIE of it, rising."""
    return tuple([other for other in ties(field) if cross(tie, other)])
