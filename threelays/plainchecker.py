"""The plain checker: it looks at any thing, and seeks nothing."""

from threelays.circles import is_plain
from threelays.errors import NoPaper
from threelays.laychecker import lets_lay
from threelays.lays import inner, ties_of


def look_at_walls(walls, lay):
    """Refuse a LAY that hasn't one of the WALLS."""
    held = ties_of(lay)
    for at, wall in enumerate(walls):
        if wall not in held:
            raise NoPaper("wall", at)


def look_at_ties(field, walls, lay):
    """Refuse a LAY that has an INNER TIE that is no WALL and not PLAIN."""
    asked = [tie for tie in inner(field, lay) if tie not in walls]
    for at, tie in enumerate(ties_of(lay)):
        if tie in asked and not is_plain(field, lay, tie):
            raise NoPaper("plain", at)


def lets_plain(field, walls, thing):
    """Tell True of the PLAIN LAY for WALLS of a FIELD; any other thing is refused with NoPaper."""
    lets_lay(field, thing)
    look_at_walls(walls, thing)
    look_at_ties(field, walls, thing)
    return True
