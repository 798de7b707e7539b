"""COUNT PAPERS, written for their checker."""

from threelays.counting import ways_on
from threelays.fields import lower


def count_paper(field, menu):
    """Tell a COUNT PAPER of a FIELD and a MENU."""
    known = {}
    ways_on(field, menu, lower(field), 0, known)
    # Each pair came into known behind all that it leads to, so the first one that was asked is the last row.
    return tuple([(front, mark, known[(front, mark)]) for front, mark in known])
