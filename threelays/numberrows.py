"""Number rows: tuples of one NUMBER or more, 0 being meant for each that is lacking."""


def number_at(row, place):
    """Tell the number at a place of a number row."""
    return row[place] if 0 <= place < len(row) else 0


def row_with(one, other):
    """Tell the one number row WITH the other."""
    many = max(len(one), len(other) + 1)
    return tuple([number_at(one, place) + number_at(other, place - 1) for place in range(many)])


def row_times(one, other):
    """Tell the one number row TIMES the other."""
    told = [0 for place in range(len(one) + len(other) - 1)]
    for at, number in enumerate(one):
        for to, factor in enumerate(other):
            told[at + to] += number * factor
    return tuple(told)
