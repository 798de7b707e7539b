"""The COUNT of a MENU, by the ways that its LAYING ROWS go."""

from threelays.fields import lower, upper
from threelays.fronts import advances


def ways_on(field, menu, front, mark, known):
    """Tell how many ways lead on from a FRONT and a mark to the UPPER FRONT.

    What is found on the way is put into known, a dict of pairs (front, mark), each behind all that it leads to.
    """
    if (front, mark) in known:
        return known[(front, mark)]
    number = 1 if front == upper(field) else 0
    for place, triangle, came in advances(field, menu, front, mark):
        number += ways_on(field, menu, came, place, known)
    known[(front, mark)] = number
    return number


def count(field, menu):
    """Tell how many LAYS OF A MENU of a FIELD there are."""
    return ways_on(field, menu, lower(field), 0, {})
