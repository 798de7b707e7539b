"""Falling to the PLAIN LAY, TURN by TURN, and joining two LAYS by way of it."""

from threelays.circles import is_plain
from threelays.lays import inner, opposite
from threelays.turns import turned


def loose(field, walls, lay):
    """Tell the INNER TIES of a LAY that are no WALLS and not PLAIN, a rising list."""
    return [tie for tie in inner(field, lay) if tie not in walls and not is_plain(field, lay, tie)]


def fall(field, walls, lay):
    """Tell the TIES that are TURNED one by one, those that come in their places, and the PLAIN LAY for the WALLS."""
    went = []
    came = []
    last = lay
    left = loose(field, walls, last)
    # What isn't PLAIN can be TURNED, and as the lifted surface falls with each TURN, there is an end.
    while left:
        went.append(left[0])
        came.append(opposite(last, left[0]))
        last = turned(field, last, left[0])
        left = loose(field, walls, last)
    return (went, came, last)


def fallen(field, walls, lay):
    """Tell the TIES by whose TURNS a LAY that has all WALLS comes to the PLAIN LAY for these."""
    return fall(field, walls, lay)[0]


def joined(field, one, other):
    """Tell TIES by whose TURNS the one LAY comes to the other."""
    if one == other:
        return []
    down = fall(field, (), one)[0]
    # What came last in the other's fall gives, TURNED, the LAY ahead of it.
    up = fall(field, (), other)[1]
    return down + up[::-1]
