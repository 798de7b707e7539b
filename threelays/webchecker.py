"""The checker of WEB PAPERS: it looks at any thing, and seeks nothing."""

from threelays.errors import NoPaper
from threelays.fractions import is_number
from threelays.numberrows import row_times, row_with
from threelays.points import rises
from threelays.ties import cross, is_tie, ties


def are_ties(field, thing):
    """Tell whether a thing is a rising tuple of TIES of a FIELD, perhaps of none."""
    if not isinstance(thing, tuple):
        return False
    return all(is_tie(field, tie) for tie in thing) and rises(thing)


def is_number_row(thing):
    """Tell whether a thing is a number row."""
    return isinstance(thing, tuple) and len(thing) > 0 and all(is_number(number) for number in thing)


def are_ahead(some, at):
    """Tell whether some things are numbers of rows ahead of the row of a number."""
    return all(is_number(number) and 0 <= number < at for number in some)


def is_rule(field, some, thing, at):
    """Tell whether a thing is a rule that a row of a number, with some TIES, may have by kind."""
    if not isinstance(thing, tuple) or len(thing) == 0:
        return False
    if thing[0] == "none":
        return len(thing) == 1
    if thing[0] == "split":
        # Truths compare like numbers, so the TIE's kind is asked before it is compared.
        return len(thing) == 4 and is_tie(field, thing[1]) and thing[1] in some and are_ahead(thing[2:], at)
    return thing[0] == "beside" and len(thing) == 3 and are_ahead(thing[1:], at)


def is_row(field, thing, at):
    """Tell whether a thing is a tuple of TIES of a FIELD, a number row and a rule, for the row of a number."""
    if not isinstance(thing, tuple) or len(thing) != 3:
        return False
    return are_ties(field, thing[0]) and is_number_row(thing[1]) and is_rule(field, thing[0], thing[2], at)


def look_at_shape(field, thing):
    """Refuse what is no tuple of one row or more."""
    if not isinstance(thing, tuple) or len(thing) == 0:
        raise NoPaper("shape", -1)
    for at, row in enumerate(thing):
        if not is_row(field, row, at):
            raise NoPaper("row", at)


def are_split(some, tie, one, other):
    """Tell whether the one are some TIES without a TIE, and the other these without all that CROSS it."""
    without = tuple([own for own in some if own != tie])
    return one == without and other == tuple([own for own in without if not cross(tie, own)])


def are_beside(some, one, other):
    """Tell whether the one and the other are some TIES together, with none in common and none that CROSS."""
    # Both have nothing twice, so a TIE in common would stand twice in what is sorted here.
    if tuple(sorted(one + other)) != some:
        return False
    return not any(cross(own, tie) for own in one for tie in other)


def look_at_row(rows, at):
    """Refuse a row whose TIES or whose numbers are not as its rule tells, all rows ahead of it being right."""
    some, numbers, rule = rows[at]
    right = some == ()
    due = (1,)
    if rule[0] != "none":
        one = rows[rule[-2]]
        other = rows[rule[-1]]
        if rule[0] == "split":
            right = are_split(some, rule[1], one[0], other[0])
            due = row_with(one[1], other[1])
        else:
            right = are_beside(some, one[0], other[0])
            due = row_times(one[1], other[1])
    if not right:
        raise NoPaper("ties", at)
    if numbers != due:
        raise NoPaper("numbers", at)


def lets_web(field, thing):
    """Tell the last row's numbers of a WEB PAPER of a FIELD; any other thing is refused with NoPaper."""
    look_at_shape(field, thing)
    for at in range(len(thing)):
        look_at_row(thing, at)
    last = len(thing) - 1
    if thing[last][0] != ties(field):
        raise NoPaper("last", last)
    return thing[last][1]
