"""The PLAIN LAY for told WALLS."""

from threelays.errors import Crossed
from threelays.falls import fall
from threelays.tielays import lay_of
from threelays.ties import cross, ties


def lay_with(field, walls):
    """Tell a LAY of a FIELD that has all WALLS."""
    taken = list(walls)
    for tie in ties(field):
        if tie not in taken and not any(cross(tie, other) for other in taken):
            taken.append(tie)
    return lay_of(field, tuple(sorted(taken)))


def plain_lay(field, walls):
    """Tell the PLAIN LAY for TIES as WALLS; Crossed with the first of these that CROSSES another one."""
    for tie in walls:
        if any(cross(tie, other) for other in walls):
            raise Crossed(tie)
    went, came, lay = fall(field, walls, lay_with(field, walls))
    return lay
