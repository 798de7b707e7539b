"""TURNS: an INNER TIE of a LAY gives way to the other diagonal of the four-corner around it."""

from threelays.errors import NoTie
from threelays.lays import opposite, ties_of
from threelays.ties import cross, hull_ties, is_tie
from threelays.triangles import sides_of


def is_held(field, lay, thing):
    """Tell whether a thing is a TIE of a FIELD that a LAY of it has."""
    # Truths compare like numbers, so its kind is asked before it is compared.
    return is_tie(field, thing) and thing in ties_of(lay)


def is_free(lay, tie):
    """Tell whether a TIE that a LAY has CAN BE TURNED there."""
    across = opposite(lay, tie)
    return len(across) == 2 and cross(tie, across)


def can_turn(field, lay, thing):
    """Tell whether a thing is a TIE of a FIELD that a LAY of it has and that CAN BE TURNED there."""
    return is_held(field, lay, thing) and is_free(lay, thing)


def turns(field, lay):
    """Tell all TIES of a LAY of a FIELD that CAN BE TURNED, a rising list."""
    return [tie for tie in ties_of(lay) if is_free(lay, tie)]


def turned(field, lay, thing):
    """Tell the LAY with a TIE TURNED; NoTie where the thing is none that CAN BE TURNED."""
    if not is_held(field, lay, thing):
        raise NoTie("away")
    if thing in hull_ties(field):
        raise NoTie("hull")
    if not is_free(lay, thing):
        raise NoTie("flat")
    across = opposite(lay, thing)
    kept = [triangle for triangle in lay if thing not in sides_of(triangle)]
    made = [tuple(sorted(across + (end,))) for end in thing]
    return tuple(sorted(kept + made))
