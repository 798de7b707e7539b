"""WEBS: TIES no two of which CROSS, and how many there are of each number of TIES."""

from threelays.numberrows import row_with
from threelays.ties import cross, ties


def write_rows(some, rows, places):
    """Write the row of a WEB PAPER that has some TIES, behind all that it wants, and tell its number.

    What is written stands in rows, a list; places, a dict of tuples of TIES, tells the numbers of these rows.
    """
    if some in places:
        return places[some]
    numbers = (1,)
    rule = ("none",)
    if some:
        tie = some[0]
        others = some[1:]
        i = write_rows(others, rows, places)
        j = write_rows(tuple([other for other in others if not cross(tie, other)]), rows, places)
        numbers = row_with(rows[i][1], rows[j][1])
        rule = ("split", tie, i, j)
    places[some] = len(rows)
    rows.append((some, numbers, rule))
    return places[some]


def web_rows(field):
    """Tell the rows of a WEB PAPER of a FIELD, the last one that of all its TIES: a list."""
    rows = []
    write_rows(ties(field), rows, {})
    return rows


def web_row(field):
    """Tell the WEB ROW of a FIELD."""
    return web_rows(field)[-1][1]
