"""FAR PAPERS, written for their checker."""

from threelays.distances import ways_from


def far_paper(field, one, other):
    """Tell a FAR PAPER for two LAYS of a FIELD, its far how many TURNS are the fewest from the one to the other."""
    # TURNS lead back, so the way from the other one is as long.
    ways = ways_from(field, other, one)
    far = len(ways[one])
    # Rows of far - 1 may lead anywhere, so none that is as far as the one is wanted.
    return (far, tuple([(lay, len(ways[lay])) for lay in ways if len(ways[lay]) < far]))
