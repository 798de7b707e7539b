"""RINGS: their SIDES, their TRIANGLES, and how many LAYS they have."""

from threelays.menus import with_ties
from threelays.points import are_points, rises, side, signed_area, steps


def ring_sides(ring):
    """Tell the SIDES of a tuple of POINTS, each from its lesser end on, rising."""
    return tuple(sorted([tuple(sorted(pair)) for pair in steps(ring + ring[:1])]))


def meet(one, other):
    """Tell whether two unlike straight lines, rising pairs of POINTS, have a place in common that is no common end."""
    a, b = one
    c, d = other
    if side(a, b, c) == 0 and side(a, b, d) == 0:
        return max(a, c) < min(b, d)
    # Not on one line, they have at most one place in common.
    if a in other or b in other:
        return False
    return side(a, b, c) * side(a, b, d) <= 0 and side(c, d, a) * side(c, d, b) <= 0


def some_meet(some):
    """Tell whether some two of rising straight lines have a place in common that is no common end."""
    for at, one in enumerate(some):
        for other in some[at + 1:]:
            # All places of a line lie, as they rise, from its one end to its other one.
            if one[1] < other[0]:
                break
            if meet(one, other):
                return True
    return False


def goes_left(points):
    """Tell whether what a round of POINTS encloses lies, taken all in all, on its left."""
    first = points[0]
    return sum(signed_area(first, one, other) for one, other in steps(points)) > 0


def is_ring(thing):
    """Tell whether a thing is a RING."""
    if not are_points(thing) or len(thing) < 3:
        return False
    field = sorted(thing)
    if not rises(field) or thing[0] != field[0]:
        return False
    return goes_left(thing) and not some_meet(ring_sides(thing))


def is_inward(ring, triangle):
    """Tell whether a TRIANGLE that no SIDE of a RING parts lies in the RING."""
    # Seen from within, its POINTS come in the order in which the RING goes round; from without, in the contrary one.
    i, j, k = sorted([ring.index(point) for point in triangle])
    return side(ring[i], ring[j], ring[k]) == 1


def ring_triangles(ring):
    """Tell all TRIANGLES of a RING, rising."""
    field = tuple(sorted(ring))
    return tuple([triangle for triangle in with_ties(field, ring_sides(ring)) if is_inward(ring, triangle)])


def place_pairs(many):
    """Tell all pairs (i, j) of PLACES of a RING of so many POINTS, i less than j, those nearer together ahead."""
    return [(i, i + apart) for apart in range(1, many) for i in range(many - apart)]


def middles(ring, held, i, j):
    """Tell all PLACES between two that make one of the TRIANGLES held with them."""
    return [k for k in range(i + 1, j) if tuple(sorted((ring[i], ring[k], ring[j]))) in held]


def ring_numbers(ring):
    """Tell for each pair of PLACES how many LAYS what lies between them has: a dict, its last pair the whole RING's."""
    held = ring_triangles(ring)
    numbers = {}
    for i, j in place_pairs(len(ring)):
        number = 1 if j == i + 1 else 0
        for k in middles(ring, held, i, j):
            number += numbers[(i, k)] * numbers[(k, j)]
        numbers[(i, j)] = number
    return numbers


def ring_count(ring):
    """Tell how many LAYS a RING has."""
    return ring_numbers(ring)[(0, len(ring) - 1)]
