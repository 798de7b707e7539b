"""FRONTS, their ADVANCES, and the LAYING ROW of a LAY."""

from threelays.fields import lower
from threelays.points import are_rising_points, side, steps
from threelays.ties import is_tie


def is_front(field, thing):
    """Tell whether a thing is a FRONT of a FIELD."""
    if not are_rising_points(thing) or len(thing) < 2:
        return False
    if thing[0] != field[0] or thing[-1] != field[-1]:
        return False
    return all(is_tie(field, pair) for pair in steps(thing))


def is_below(triangle):
    """Tell whether the middle POINT of a TRIANGLE lies BELOW."""
    a, b, c = triangle
    return side(a, b, c) == 1


def exchange(triangle):
    """Tell which POINTS, behind one another, a TRIANGLE takes from a FRONT, and which it gives in their place."""
    a, b, c = triangle
    if is_below(triangle):
        return (triangle, (a, c))
    return ((a, c), triangle)


def new_weight(by_ties, triangle):
    """Tell what the TIES that come NEW in an ADVANCE by a TRIANGLE weigh, by a dict of TIES."""
    taken, given = exchange(triangle)
    return sum(by_ties[tie] for tie in steps(given))


def least_place(triangle, mark):
    """Tell the least PLACE at which a mark lets an ADVANCE by a TRIANGLE."""
    return mark - 1 if is_below(triangle) else mark


def advances(field, menu, front, mark):
    """Tell the ADVANCES of a FRONT by a MENU that a mark lets: a list of tuples (place, triangle, front)."""
    told = []
    for triangle in menu:
        if triangle[0] in front:
            taken, given = exchange(triangle)
            place = front.index(triangle[0])
            behind = place + len(taken)
            if front[place:behind] == taken and place >= least_place(triangle, mark):
                told.append((place, triangle, front[:place] + given + front[behind:]))
    return told


def laying_row(field, lay):
    """Tell the LAYING ROW of a LAY of a FIELD."""
    row = []
    ways = advances(field, lay, lower(field), 0)
    while ways:
        # No two have the same PLACE, so the least one is that of the least PLACE.
        place, triangle, front = min(ways)
        row.append(triangle)
        ways = advances(field, lay, front, 0)
    return tuple(row)
