"""NUMBERS and FRACTIONS."""


def is_number(thing):
    """Tell whether a thing is a NUMBER."""
    return isinstance(thing, int) and not isinstance(thing, bool)


def is_number_pair(thing):
    """Tell whether a thing is a tuple of two NUMBERS."""
    if not isinstance(thing, tuple) or len(thing) != 2:
        return False
    return is_number(thing[0]) and is_number(thing[1])


def greatest_divisor(one, other):
    """Tell the greatest common divisor of two NUMBERS, not both 0."""
    greater = abs(one)
    lesser = abs(other)
    while lesser > 0:
        greater, lesser = lesser, greater % lesser
    return greater


def is_fraction(thing):
    """Tell whether a thing is a FRACTION."""
    if not is_number_pair(thing):
        return False
    top, bottom = thing
    return bottom >= 1 and greatest_divisor(top, bottom) == 1


def fraction(top, bottom):
    """Tell the FRACTION that top over bottom is, bottom not 0."""
    divisor = greatest_divisor(top, bottom)
    if bottom < 0:
        divisor = -divisor
    return (top // divisor, bottom // divisor)


def less(one, other):
    """Tell whether the one FRACTION is less than the other."""
    # Both bottoms are above 0, so the comparison may be multiplied by them.
    return one[0] * other[1] < other[0] * one[1]


def greatest(some):
    """Tell the greatest of one FRACTION or more."""
    told = some[0]
    for other in some:
        if less(told, other):
            told = other
    return told
