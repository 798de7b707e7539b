"""The least weight of the LAYS OF A MENU, by the FRONTS over which their TRIANGLES lead."""

from threelays.errors import NoLay
from threelays.fields import lower, upper
from threelays.fronts import advances, new_weight
from threelays.lays import weight, weights_by_ties


def beyond(by_ties):
    """Tell a number that is more than any TIES weigh together, each once."""
    return sum(by_ties.values()) + 1


def least_on(field, by_ties, menu, front, known):
    """Tell the least weight of the TIES that come NEW from a FRONT on up to the UPPER one; beyond where no way leads.

    What is found on the way is put into known, a dict of FRONTS.
    """
    if front in known:
        return known[front]
    number = 0 if front == upper(field) else beyond(by_ties)
    # The mark 0 lets all of them: in whatever order TRIANGLES come, they make a LAY.
    for place, triangle, came in advances(field, menu, front, 0):
        number = min(number, new_weight(by_ties, triangle) + least_on(field, by_ties, menu, came, known))
    known[front] = number
    return number


def least_lay(field, weights, menu):
    """Tell a LAY OF A MENU of the least weight; () where there is none."""
    by_ties = weights_by_ties(field, weights)
    known = {}
    front = lower(field)
    if least_on(field, by_ties, menu, front, known) == beyond(by_ties):
        return ()
    taken = []
    while front != upper(field):
        ways = advances(field, menu, front, 0)
        number, triangle, front = min([(new_weight(by_ties, three) + known[came], three, came)
                                       for place, three, came in ways])
        taken.append(triangle)
    return tuple(sorted(taken))


def least(field, weights, menu):
    """Tell the least weight of all LAYS OF A MENU, and a LAY that has it; NoLay where there is none."""
    lay = least_lay(field, weights, menu)
    if lay == ():
        raise NoLay()
    return (weight(field, weights, lay), lay)
