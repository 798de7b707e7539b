"""The checker of RING PAPERS: it looks at any thing, and seeks nothing."""

from threelays.errors import NoPaper
from threelays.fractions import is_number
from threelays.rings import middles, ring_triangles


def is_row(many, thing):
    """Tell whether a thing is a tuple of two PLACES of a RING of so many POINTS, rising, and a NUMBER."""
    if not isinstance(thing, tuple) or len(thing) != 3 or not all(is_number(part) for part in thing):
        return False
    return 0 <= thing[0] < thing[1] < many


def look_at_shape(ring, thing):
    """Refuse what is no tuple of one row or more."""
    if not isinstance(thing, tuple) or len(thing) == 0:
        raise NoPaper("shape", -1)
    for at, row in enumerate(thing):
        if not is_row(len(ring), row):
            raise NoPaper("row", at)


def numbers_of_sides(ring):
    """Tell the numbers that are known without a row, a dict of pairs."""
    numbers = {}
    for i in range(len(ring) - 1):
        numbers[(i, i + 1)] = 1
    return numbers


def look_at_numbers(ring, rows):
    """Refuse rows that want a pair of which none ahead tells, or whose numbers are not what these make."""
    held = ring_triangles(ring)
    known = numbers_of_sides(ring)
    for at, (i, j, number) in enumerate(rows):
        wanted = middles(ring, held, i, j)
        if not all((i, k) in known and (k, j) in known for k in wanted):
            raise NoPaper("ahead", at)
        due = 1 if j == i + 1 else sum(known[(i, k)] * known[(k, j)] for k in wanted)
        if number != due:
            raise NoPaper("number", at)
        known[(i, j)] = number


def look_at_last(ring, rows):
    """Refuse rows the last of which is not the whole RING's."""
    i, j, number = rows[-1]
    if i != 0 or j != len(ring) - 1:
        raise NoPaper("last", len(rows) - 1)


def lets_ring(ring, thing):
    """Tell the last row's number of a RING PAPER of a RING; any other thing is refused with NoPaper."""
    look_at_shape(ring, thing)
    look_at_numbers(ring, thing)
    look_at_last(ring, thing)
    return thing[-1][2]
