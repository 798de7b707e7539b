"""The checker of BOUND PAPERS: it looks at any thing, and seeks nothing."""

from threelays.errors import NoPaper
from threelays.fields import lower, upper
from threelays.fractions import is_number
from threelays.fronts import advances, is_front, new_weight
from threelays.lays import weights_by_ties
from threelays.points import steps


def is_row(field, thing):
    """Tell whether a thing is a tuple of a FRONT of a FIELD and a NUMBER."""
    if not isinstance(thing, tuple) or len(thing) != 2:
        return False
    return is_front(field, thing[0]) and is_number(thing[1])


def look_at_shape(field, thing):
    """Refuse what is no tuple of one row or more."""
    if not isinstance(thing, tuple) or len(thing) == 0:
        raise NoPaper("shape", -1)
    for at, row in enumerate(thing):
        if not is_row(field, row):
            raise NoPaper("row", at)


def numbers_by_fronts(field, rows):
    """Tell the rows' numbers as a dict of FRONTS; refuse a FRONT that comes twice, or rows without the LOWER one."""
    numbers = {}
    for at, (front, number) in enumerate(rows):
        if front in numbers:
            raise NoPaper("twice", at)
        numbers[front] = number
    if lower(field) not in numbers:
        raise NoPaper("lower", -1)
    return numbers


def look_at_numbers(field, by_ties, menu, rows, numbers):
    """Refuse rows that lead to a FRONT without a row, or whose number is more than an ADVANCE lets."""
    for at, (front, number) in enumerate(rows):
        if front == upper(field) and number != 0:
            raise NoPaper("upper", at)
        # The mark 0 lets all ADVANCES, whatever their PLACES.
        ways = advances(field, menu, front, 0)
        if not all(came in numbers for place, triangle, came in ways):
            raise NoPaper("leads", at)
        if any(number > numbers[came] + new_weight(by_ties, triangle) for place, triangle, came in ways):
            raise NoPaper("bound", at)


def lets_bound(field, weights, menu, thing):
    """Tell the BOUND of a BOUND PAPER of a FIELD, WEIGHTS and a MENU; any other thing is refused with NoPaper."""
    look_at_shape(field, thing)
    numbers = numbers_by_fronts(field, thing)
    by_ties = weights_by_ties(field, weights)
    look_at_numbers(field, by_ties, menu, thing, numbers)
    return numbers[lower(field)] + sum(by_ties[tie] for tie in steps(lower(field)))
