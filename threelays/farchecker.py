"""The checker of FAR PAPERS: it looks at any thing, and seeks nothing."""

from threelays.errors import NoPaper
from threelays.fractions import is_number
from threelays.laychecker import is_lay
from threelays.turns import turned, turns


def is_from_nought(thing):
    """Tell whether a thing is a NUMBER from 0 on."""
    return is_number(thing) and thing >= 0


def is_row(field, thing):
    """Tell whether a thing is a tuple of a LAY of a FIELD and a NUMBER from 0 on."""
    if not isinstance(thing, tuple) or len(thing) != 2:
        return False
    return is_from_nought(thing[1]) and is_lay(field, thing[0])


def look_at_shape(field, thing):
    """Refuse what is no tuple of a NUMBER from 0 on and a tuple of rows."""
    if not isinstance(thing, tuple) or len(thing) != 2:
        raise NoPaper("shape", -1)
    far, rows = thing
    if not is_from_nought(far) or not isinstance(rows, tuple):
        raise NoPaper("shape", -1)
    for at, row in enumerate(rows):
        if not is_row(field, row):
            raise NoPaper("row", at)


def numbers_by_lays(rows):
    """Tell the rows' numbers as a dict of LAYS; refuse a LAY that comes twice."""
    numbers = {}
    for at, (lay, number) in enumerate(rows):
        if lay in numbers:
            raise NoPaper("twice", at)
        numbers[lay] = number
    return numbers


def look_at_ends(one, other, rows, numbers):
    """Refuse rows without the other LAY with 0, or with the one."""
    if other not in numbers or numbers[other] != 0:
        raise NoPaper("goal", -1)
    for at, (lay, number) in enumerate(rows):
        if lay == one:
            raise NoPaper("there", at)


def look_at_leads(field, far, rows, numbers):
    """Refuse rows below far - 1 from which one TURN makes a LAY without a row, or with a number that is too great."""
    for at, (lay, number) in enumerate(rows):
        if number < far - 1:
            made = [turned(field, lay, tie) for tie in turns(field, lay)]
            if not all(came in numbers and numbers[came] <= number + 1 for came in made):
                raise NoPaper("leads", at)


def lets_far(field, one, other, thing):
    """Tell far of a FAR PAPER for two LAYS of a FIELD; any other thing is refused with NoPaper."""
    look_at_shape(field, thing)
    far, rows = thing
    numbers = numbers_by_lays(rows)
    if far > 0:
        look_at_ends(one, other, rows, numbers)
        look_at_leads(field, far, rows, numbers)
    return far
