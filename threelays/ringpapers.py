"""RING PAPERS, written for their checker."""

from threelays.rings import ring_numbers


def ring_paper(ring):
    """Tell a RING PAPER of a RING."""
    numbers = ring_numbers(ring)
    return tuple([(i, j, numbers[(i, j)]) for i, j in numbers])
