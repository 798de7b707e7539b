"""Webs and web papers found slowly, by trying, by the words of the document.

What the tests hold the program's answers against; of the program only the fields' ties are taken, which have tests of
their own.
"""

import functools
import itertools
import random

from tests.samples import CORNERS, MADE, NEEDLE, SPOT, SQUARE, bowl, made_field
from tests.shapes import do_cross
from threelays.ties import ties

GRID_SIX = tuple((x, y) for x in range(3) for y in range(2))
LINE_SIX = tuple((x, x) for x in range(5)) + ((5, 4),)
TWO_OFF_SIX = tuple(sorted([(x, 0) for x in range(4)] + [(1, 2), (2, -3)]))
ROUND_SIX = tuple(sorted([(5, 0), (-5, 0), (3, 4), (-3, 4), (4, -3), (-4, -3)]))
HUB_SIX = tuple(sorted([(0, 0), (1, 1), (5, 0), (-5, 1), (0, 6), (-1, -7)]))
FAR_SIX = tuple(sorted(CORNERS + ((0, 0), (999, -999))))
SIXES = (
    SPOT, SQUARE, CORNERS, NEEDLE, bowl(4), bowl(5), bowl(6), GRID_SIX, LINE_SIX, TWO_OFF_SIX, ROUND_SIX, HUB_SIX,
    FAR_SIX) + tuple(field for field in MADE if len(field) <= 6)[:28] + (made_field(6, 6, 1000), made_field(7, 6, 1))


@functools.lru_cache(maxsize=None)
def meets(one, other):
    return do_cross(one, other)


@functools.lru_cache(maxsize=None)
def tried_web_row(field):
    """How many webs there are of each number of ties: each choice is tried, as long as no two cross."""
    found = {}
    order = ties(field)

    def go_on(at, taken):
        if at == len(order):
            found[len(taken)] = found.get(len(taken), 0) + 1
            return
        go_on(at + 1, taken)
        if not any(meets(order[at], other) for other in taken):
            go_on(at + 1, taken + [order[at]])

    go_on(0, [])
    return tuple(found[many] for many in range(len(found)))


def with_rows(a, b):
    """a WITH b, place by place."""
    many = max(len(a), len(b) + 1)
    longer = list(a) + [0] * many, [0] + list(b) + [0] * many
    return tuple(longer[0][k] + longer[1][k] for k in range(many))


def times_rows(a, b):
    """a TIMES b, place by place."""
    return tuple(sum(a[i] * b[k - i] for i in range(len(a)) if 0 <= k - i < len(b)) for k in range(len(a) + len(b) - 1))


def apart_in_two(source, some):
    """Two parts of ties of which none of the one crosses one of the other; perhaps () and all of them."""
    one = set()
    left = list(some)
    while left:
        group, edge = set(), [left[0]]
        while edge:
            tie = edge.pop()
            if tie not in group:
                group.add(tie)
                edge += [other for other in some if meets(tie, other)]
        left = [tie for tie in left if tie not in group]
        if source.random() < 0.5:
            one |= group
    return tuple(tie for tie in some if tie in one), tuple(tie for tie in some if tie not in one)


def tried_web_paper(field, seed):
    """A web paper, each row behind those that it wants, by other rules for another seed."""
    source = random.Random(seed)
    order = list(ties(field))
    source.shuffle(order)
    places, rows = {}, []

    def go_on(some):
        if some in places:
            return places[some]
        one, other = apart_in_two(source, some)
        if not some:
            row = ((), (1,), ("none",))
        elif one and other and source.random() < 0.7:
            i, j = go_on(one), go_on(other)
            row = (some, times_rows(rows[i][1], rows[j][1]), ("beside", i, j))
        else:
            tie = min(some, key=order.index)
            i = go_on(tuple(own for own in some if own != tie))
            j = go_on(tuple(own for own in some if own != tie and not meets(own, tie)))
            row = (some, with_rows(rows[i][1], rows[j][1]), ("split", tie, i, j))
        places[some] = len(rows)
        rows.append(row)
        return places[some]

    go_on(ties(field))
    return tuple(rows)


def uncrossed(field):
    """The ties that no other one crosses."""
    return [tie for tie in ties(field) if not any(meets(tie, other) for other in ties(field))]


def all_some(field, most):
    """Some rising tuples of ties of a field, of at most so many."""
    return [some for many in range(most + 1) for some in itertools.combinations(ties(field), many)]
