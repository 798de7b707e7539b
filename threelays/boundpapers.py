"""BOUND PAPERS, written for their checker."""

from threelays.fields import lower
from threelays.lays import weights_by_ties
from threelays.leasts import least_on


def bound_paper(field, weights, menu):
    """Tell a BOUND PAPER of a FIELD, WEIGHTS and a MENU, its BOUND the least weight of the LAYS OF THE MENU."""
    known = {}
    least_on(field, weights_by_ties(field, weights), menu, lower(field), known)
    return tuple(known.items())
