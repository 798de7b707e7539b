"""Lays, fronts, advances and count papers found slowly, by trying, by the words of the document.

What the tests hold the program's answers against; of the program only the fields' hulls, ties and triangles are
taken, which have tests of their own.
"""

import functools
import itertools
import random
from fractions import Fraction

from tests.shapes import between, common_area, do_cross, doubled
from threelays.fields import hull, hull_area, lower, upper
from threelays.ties import cross, ties
from threelays.triangles import triangles


def size(three):
    return abs(doubled(*three))


def sides(three):
    return tuple(itertools.combinations(three, 2))


def hull_ties(field):
    rim = hull(field)
    return {tuple(sorted(pair)) for pair in zip(rim, rim[1:] + rim[:1])}


def many_triangles(field):
    return 2 * len(field) - 2 - len(hull(field))


def many_ties(field):
    return 3 * len(field) - 3 - len(hull(field))


@functools.lru_cache(maxsize=None)
def lie_over(one, other):
    return common_area(one, other) > 0


@functools.lru_cache(maxsize=None)
def lays_by_choice(field):
    """All lays by their very definition: each choice of triangles of which no two lie over one another."""
    found = []

    def go_on(chosen, rest, lacking):
        if lacking == 0:
            found.append(tuple(chosen))
        elif sum(map(size, rest)) >= lacking:
            first = rest[0]
            go_on(chosen + [first], [three for three in rest[1:] if not lie_over(first, three)], lacking - size(first))
            go_on(chosen, rest[1:], lacking)

    go_on([], list(triangles(field)), hull_area(field))
    return tuple(sorted(found))


@functools.lru_cache(maxsize=None)
def all_lays(field):
    """All lays, grown from the hull ties inwards: each open tie is given a triangle on its open hand."""
    found = []
    on_hand = {}
    for three in triangles(field):
        for a, b in sides(three):
            third = [point for point in three if point not in (a, b)][0]
            on_hand.setdefault((a, b, doubled(a, b, third) > 0), []).append(three)

    def opened(open_ties, three):
        told = dict(open_ties)
        for a, b in sides(three):
            third = [point for point in three if point not in (a, b)][0]
            if told.pop((a, b, doubled(a, b, third) > 0), None) is None:
                told[a, b, doubled(a, b, third) < 0] = True
        return told

    def go_on(chosen, open_ties):
        if not open_ties:
            found.append(tuple(sorted(chosen)))
            return
        for three in on_hand.get(min(open_ties), []):
            if not any(lie_over(three, other) for other in chosen):
                go_on(chosen + [three], opened(open_ties, three))

    rim = {}
    for a, b in hull_ties(field):
        rim[a, b, any(doubled(a, b, point) > 0 for point in field)] = True
    go_on([], rim)
    return tuple(sorted(found))


def tied_lay(field, order):
    """The lay that comes where ties are taken in an order, each one that crosses none taken yet."""
    taken = []
    for tie in order:
        if not any(cross(tie, other) for other in taken):
            taken.append(tie)
    held = set(taken)
    return tuple(three for three in triangles(field) if held.issuperset(sides(three)))


@functools.lru_cache(maxsize=None)
def some_lays(field):
    """A few lays of a field, of sixteen points too."""
    source = random.Random(len(field) * 1000 + sum(x * 31 + y for x, y in field))
    told = {}
    for step in range(4):
        order = list(ties(field))
        source.shuffle(order)
        told[tied_lay(field, order)] = True
    return tuple(told)


@functools.lru_cache(maxsize=None)
def all_fronts(field):
    """All fronts of a field: each choice of points between the first and the last one is tried."""
    found = []
    for many in range(len(field) - 1):
        for middle in itertools.combinations(field[1:-1], many):
            front = (field[0],) + middle + (field[-1],)
            if all(between(a, b).isdisjoint(field) for a, b in zip(front, front[1:])):
                found.append(front)
    return tuple(sorted(found))


def tried_advances(menu, front, mark):
    """The advances of a front: each triangle is tried at each place."""
    told = []
    for three in menu:
        a, b, c = three
        for place in range(len(front) - 1):
            below = doubled(a, b, c) > 0
            if below and front[place:place + 3] == (a, b, c) and place >= mark - 1:
                told.append((place, three, tuple(point for point in front if point != b)))
            if not below and front[place:place + 2] == (a, c) and place >= mark:
                told.append((place, three, tuple(sorted(front + (b,)))))
    return told


def rows_by_marks(field, menu):
    """The triangles of all ways from the lower front to the upper one, each let by the mark that the one ahead left."""
    found = []

    def go_on(row, front, mark):
        if front == upper(field):
            found.append(tuple(row))
        for place, three, came in tried_advances(menu, front, mark):
            go_on(row + [three], came, place)

    go_on([], lower(field), 0)
    return found


def tried_paper(field, menu):
    """A count paper, each row behind all to which it leads."""
    known = {}

    def go_on(front, mark):
        if (front, mark) not in known:
            numbers = [go_on(came, place) for place, three, came in tried_advances(menu, front, mark)]
            known[front, mark] = 1 if front == upper(field) else sum(numbers)
        return known[front, mark]

    go_on(lower(field), 0)
    return tuple((front, mark, number) for (front, mark), number in known.items())


def crossed_pairs(some):
    return [(one, other) for one, other in itertools.combinations(some, 2) if do_cross(one, other)]


@functools.lru_cache(maxsize=None)
def tried_row(field, lay):
    """The laying row of a lay: always the advance of the least place, until there is none."""
    row, front = [], lower(field)
    ways = tried_advances(lay, front, 0)
    while ways:
        place, three, front = min(ways, key=lambda way: way[0])
        row.append(three)
        ways = tried_advances(lay, front, 0)
    return tuple(row)


@functools.lru_cache(maxsize=None)
def lays_in_order(field):
    """All lays as they rise by their laying rows."""
    return tuple(sorted(all_lays(field), key=lambda lay: tried_row(field, lay)))


def lays_of_menu(lays, menu):
    """The lays, in the same order, that have triangles of a menu alone."""
    held = set(menu)
    return [lay for lay in lays if held.issuperset(lay)]


def ties_in(lay):
    return sorted({tie for three in lay for tie in sides(three)})


def weigh(field, weights, lay):
    """The weight of a lay, by the place of each of its ties among all."""
    order = ties(field)
    return sum(weights[order.index(tie)] for tie in ties_in(lay))


def new_ties(front, came):
    """The ties that the front that comes has and the one that was hasn't."""
    return sorted(set(zip(came, came[1:])) - set(zip(front, front[1:])))


def many_menus(seed, field):
    """Menus of a field: all triangles, none, some by chance, those of two lays, one triangle less."""
    source = random.Random(seed)
    told = triangles(field)
    lays = all_lays(field)
    menus = [told, (), told[1:], lays[0], lays[-1][1:], tuple(sorted(set(lays[0] + lays[-1])))]
    for part in (2, 4, 8):
        left_out = set(source.sample(told, len(told) // part))
        menus.append(tuple(three for three in told if three not in left_out))
    return menus


def many_weights(seed, field):
    """Weights of a field: all 0, all alike, one alone above 0, by lengths, by chance, to 1,000,000."""
    source = random.Random(seed)
    order = ties(field)
    one = source.randrange(len(order))
    return [
        (0,) * len(order), (7,) * len(order), (1000000,) * len(order),
        tuple(1000000 if at == one else 0 for at in range(len(order))),
        tuple(min(1000000, (b[0] - a[0]) ** 2 + (b[1] - a[1]) ** 2) for a, b in order),
        tuple(source.randint(0, 9) for tie in order), tuple(source.randint(0, 1000000) for tie in order)]


def lay_with_ties(field, held):
    """The triangles all sides of which are among some ties."""
    return tuple(three for three in triangles(field) if held.issuperset(sides(three)))


@functools.lru_cache(maxsize=None)
def tried_turn(field, lay, tie):
    """The other lay that has all ties of a lay but one, and the tie that it has in its place; None where none has."""
    held = set(ties_in(lay)) - {tie}
    others = [other for other in ties(field) if other not in held and other != tie
              and not any(cross(other, one) for one in held)]
    if not others:
        return None
    return lay_with_ties(field, held | {others[0]}), others[0]


def walked(field, lay, some, walls=()):
    """All lays to which a list of ties leads, turned one by one; each has to be one that can be turned, and no wall."""
    told = [lay]
    for tie in some:
        assert tie in ties_in(told[-1]) and tie not in walls, tie
        found = tried_turn(field, told[-1], tie)
        assert found is not None, tie
        told.append(found[0])
    return told


def tried_circle(corners, point):
    """1 within, 0 on, -1 without the circle, by its middle and the distances from there."""
    (ax, ay), (bx, by), (cx, cy) = corners
    whole = 2 * doubled(*corners)
    one, other = (bx - ax) ** 2 + (by - ay) ** 2, (cx - ax) ** 2 + (cy - ay) ** 2
    x = ax + Fraction((cy - ay) * one - (by - ay) * other, whole)
    y = ay + Fraction((bx - ax) * other - (cx - ax) * one, whole)
    apart = (ax - x) ** 2 + (ay - y) ** 2 - (point[0] - x) ** 2 - (point[1] - y) ** 2
    return (apart > 0) - (apart < 0)


@functools.lru_cache(maxsize=None)
def tried_plain(lay, tie):
    """Whether an inner tie of a lay is plain, whichever of the two points across one takes."""
    one, other = [point for three in lay if set(tie) <= set(three) for point in three if point not in tie]
    least = min(tie + (one, other))
    told = []
    for here, there in ((one, other), (other, one)):
        where = tried_circle(tuple(sorted(tie + (here,))), there)
        told.append(where == -1 or (where == 0 and least in tie))
    assert told[0] == told[1], (lay, tie)
    return told[0]


def unplain_ties(field, walls, lay):
    """The inner ties of a lay that are no walls and not plain, rising."""
    rim = hull_ties(field)
    return [tie for tie in ties_in(lay) if tie not in rim and tie not in walls and not tried_plain(lay, tie)]


def plain_lays(field, walls):
    """All lays that have all walls, and all other inner ties plain, among all lays found by trying."""
    return [lay for lay in all_lays(field)
            if set(walls) <= set(ties_in(lay)) and not unplain_ties(field, walls, lay)]


@functools.lru_cache(maxsize=None)
def many_walls(field):
    """Walls of a field: none, one, two, some of a lay, all of a lay."""
    source = random.Random(len(field) * 77 + sum(x * 13 + y for x, y in field))
    told = [(), (source.choice(ties(field)),)]
    for lay in some_lays(field)[:2]:
        held = ties_in(lay)
        for many in (2, len(held) // 3, len(held) * 2 // 3, len(held)):
            told.append(tuple(sorted(source.sample(held, many))))
    return tuple(told)


def lay_with_walls(field, walls, seed):
    """A lay that has told walls, another one for another seed."""
    order = list(ties(field))
    random.Random(seed).shuffle(order)
    return tied_lay(field, list(walls) + order)


def most_turns(field):
    """How many ties a field has beyond those of a lay."""
    return len(ties(field)) - many_ties(field)
