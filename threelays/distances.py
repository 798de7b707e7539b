"""Fewest TURNS between two LAYS."""

from threelays.turns import turned, turns


def widen(field, edge, ways):
    """Put the ways to all LAYS that one TURN makes of those at the edge into ways; tell those that are new there."""
    found = []
    for lay in edge:
        for tie in turns(field, lay):
            made = turned(field, lay, tie)
            if made not in ways:
                ways[made] = ways[lay] + [tie]
                found.append(made)
    return found


def ways_from(field, one, other):
    """Tell fewest TIES by whose TURNS the one LAY of a FIELD comes to each LAY that is no farther than the other.

    What is told is a dict of LAYS; of those that are just as far as the other not all need be in it.
    """
    ways = {}
    ways[one] = []
    edge = [one]
    # By TURNS each LAY comes to each other one, so there is an end.
    while other not in ways:
        edge = widen(field, edge, ways)
    return ways


def fewest(field, one, other):
    """Tell fewest TIES by whose TURNS the one LAY of a FIELD comes to the other."""
    return ways_from(field, one, other)[other]
