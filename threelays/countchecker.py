"""The checker of COUNT PAPERS: it looks at any thing, and seeks nothing."""

from threelays.errors import NoPaper
from threelays.fields import lower, upper
from threelays.fractions import is_number
from threelays.fronts import advances, is_front


def is_row(field, thing):
    """Tell whether a thing is a tuple of a FRONT of a FIELD, a mark of it and a NUMBER."""
    if not isinstance(thing, tuple) or len(thing) != 3:
        return False
    front, mark, number = thing
    if not is_front(field, front) or not is_number(mark) or not is_number(number):
        return False
    return 0 <= mark <= len(front) - 2


def look_at_shape(field, thing):
    """Refuse what is no tuple of one row or more."""
    if not isinstance(thing, tuple) or len(thing) == 0:
        raise NoPaper("shape", -1)
    for at, row in enumerate(thing):
        if not is_row(field, row):
            raise NoPaper("row", at)


def look_at_numbers(field, menu, rows):
    """Refuse rows that lead to none ahead of them, or whose numbers are not the sums of these."""
    known = {}
    top = upper(field)
    for at, (front, mark, number) in enumerate(rows):
        due = 1
        if front != top:
            leads = [(came, place) for place, triangle, came in advances(field, menu, front, mark)]
            if not all(lead in known for lead in leads):
                raise NoPaper("ahead", at)
            due = sum(known[lead] for lead in leads)
        if number != due:
            raise NoPaper("number", at)
        known[(front, mark)] = number


def look_at_last(field, rows):
    """Refuse rows the last of which is not the one of the LOWER FRONT with mark 0."""
    front, mark, number = rows[-1]
    if front != lower(field) or mark != 0:
        raise NoPaper("last", len(rows) - 1)


def lets_count(field, menu, thing):
    """Tell the last row's number of a COUNT PAPER of a FIELD and a MENU; any other thing is refused with NoPaper."""
    look_at_shape(field, thing)
    look_at_numbers(field, menu, thing)
    look_at_last(field, thing)
    return thing[-1][2]
