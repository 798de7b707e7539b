"""The checker of LAYS: it looks at any thing, and seeks nothing."""

from threelays.errors import NoPaper
from threelays.fields import hull_area
from threelays.points import area
from threelays.triangles import are_corners, is_void, over


def look_at_shape(field, thing):
    """Refuse what is no tuple of rising threes of POINTS of a FIELD that are not on one line."""
    if not isinstance(thing, tuple):
        raise NoPaper("shape", -1)
    for at, three in enumerate(thing):
        if not are_corners(field, three):
            raise NoPaper("shape", at)


def look_at_rise(threes):
    """Refuse threes that do not rise."""
    for at in range(1, len(threes)):
        if not threes[at - 1] < threes[at]:
            raise NoPaper("rise", at)


def look_at_voids(field, threes):
    """Refuse threes with another POINT of a FIELD within or on a side."""
    for at, three in enumerate(threes):
        if not is_void(field, three):
            raise NoPaper("void", at)


def look_at_overs(threes):
    """Refuse threes that lie OVER one another."""
    for at, three in enumerate(threes):
        if any(over(three, other) for other in threes[:at]):
            raise NoPaper("over", at)


def look_at_areas(field, threes):
    """Refuse threes whose AREAS, added, are not the hull's."""
    if sum(area(a, b, c) for a, b, c in threes) != hull_area(field):
        raise NoPaper("area", -1)


def lets_lay(field, thing):
    """Tell True of a LAY of a FIELD; any other thing is refused with NoPaper."""
    look_at_shape(field, thing)
    look_at_rise(thing)
    look_at_voids(field, thing)
    look_at_overs(thing)
    look_at_areas(field, thing)
    return True


def is_lay(field, thing):
    """Tell whether a thing is a LAY of a FIELD."""
    try:
        lets_lay(field, thing)
    except NoPaper:
        return False
    return True
