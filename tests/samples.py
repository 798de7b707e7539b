"""Fields, things, and spoiled things that the tests share."""

import random

SPOT = ((0, 0), (0, 1), (1, 0))
SQUARE = ((0, 0), (0, 1), (1, 0), (1, 1))
GRID_THREE = tuple((x, y) for x in range(3) for y in range(3))
GRID_FOUR = tuple((x, y) for x in range(4) for y in range(4))
LADDER = tuple((x, y) for x in range(2) for y in range(8))
CIRCLE = tuple(sorted(
    (x * i, y * j) for a, b in ((1, 8), (4, 7)) for x, y in ((a, b), (b, a)) for i in (1, -1) for j in (1, -1)))
WHEEL = tuple(sorted(
    [(0, 0), (5, 0), (-5, 0), (0, 5), (0, -5)]
    + [(x * i, y * j) for x, y in ((3, 4), (4, 3)) for i in (1, -1) for j in (1, -1)]))
FLAT_ROW = tuple(sorted([(x, 2 * x) for x in range(15)] + [(5, 3)]))
LOW_ROW = tuple(sorted([(x, 0) for x in range(15)] + [(7, -2)]))
UPRIGHT_ROW = tuple(sorted([(0, y) for y in range(15)] + [(1, 4)]))
LAST_OFF = tuple((x, x) for x in range(8)) + ((8, 7),)
FIRST_OFF = ((-3, 5),) + tuple((x, 0) for x in range(8))
RIM = tuple(sorted(
    [(x, y) for x in (0, 2, 4, 6) for y in (0, 6)] + [(x, y) for x in (0, 6) for y in (2, 4)] + [(3, 3), (2, 4)]))
OUTERMOST = tuple(sorted(
    [(x, y) for x in (-1000, 0, 1000) for y in (-1000, 0, 1000)]
    + [(-999, -1000), (999, 1000), (1000, 999), (-1000, 999), (1, 0), (0, -1), (-1, 1)]))
CORNERS = ((-1000, -1000), (-1000, 1000), (1000, -1000), (1000, 1000))
NEEDLE = ((-1000, -1000), (999, 999), (1000, -999), (1000, 1000))

SMALL = (SPOT, SQUARE, GRID_THREE, LAST_OFF, FIRST_OFF, CORNERS, NEEDLE)
SIXTEEN = (GRID_FOUR, LADDER, CIRCLE, FLAT_ROW, LOW_ROW, UPRIGHT_ROW, OUTERMOST)


def on_one_line(points):
    (ax, ay), (bx, by) = points[:2]
    return all((bx - ax) * (y - ay) == (by - ay) * (x - ax) for x, y in points)


def made_field(seed, many, reach):
    """A field of so many points, coordinates from -reach to reach, the same one for the same seed."""
    source = random.Random(seed)
    while True:
        found = {}
        while len(found) < many:
            found[source.randint(-reach, reach), source.randint(-reach, reach)] = True
        field = tuple(sorted(found))
        if not on_one_line(field):
            return field


def made_fields():
    """Small reaches have many points on one line; great ones have hardly any."""
    told = []
    for seed in range(12):
        for many, reach in ((3, 2), (4, 1), (5, 3), (6, 2), (8, 2), (9, 4), (7, 1000)):
            told.append(made_field(seed * 100 + many, many, reach))
    told.append(made_field(1, 16, 2))
    told.append(made_field(2, 16, 4))
    told.append(made_field(3, 16, 1000))
    return tuple(told)


MADE = made_fields()
FIELDS = SMALL + SIXTEEN + (WHEEL, RIM) + MADE


ROUND_NINE = CIRCLE[:9]
TWO_OFF = tuple(sorted([(x, 0) for x in range(7)] + [(2, 3), (4, -2)]))
BOTH_OFF = tuple(sorted([(x, x) for x in range(7)] + [(1, 5), (2, 5)]))
TWO_COLUMNS = tuple((x, y) for x in range(2) for y in range(4))
OUTER_NINE = tuple((x, y) for x in (-1000, 0, 1000) for y in (-1000, 0, 1000))
OUTER_EIGHT = tuple(sorted(CORNERS + ((-999, 999), (-1, 0), (0, 1), (999, -1000))))
NINES = SMALL + (ROUND_NINE, TWO_OFF, BOTH_OFF, TWO_COLUMNS, OUTER_NINE, OUTER_EIGHT) + MADE[:-3]


def bowl(many):
    """A field of so many points, all on the hull, no three on one line, all on the lower front."""
    return tuple((x, x * x) for x in range(many))


def deep(kind, inmost, depth):
    thing = inmost
    for step in range(depth):
        thing = kind([thing])
    return thing


MANY = 10 ** 199


def no_points():
    """Things of all kinds, new ones each time, none of them a point nor one made of points."""
    return [
        0, 1, -1, MANY, -MANY, True, False, None, "", "0,0", "ab", (), [], (0,), (1, 2, 3), [0, 0], [1, 2],
        (True, 0), (0, False), (True, True), (0, None), ("0", "0"), (0, "1"), ((0,), 0), (0, (0,)), ([], []),
        ([0], 0), [[0, 0], [0, 1], [1, 0]], (0, 0, 0, 0), ((), ()), ((), (), ()), (None, None, None),
        ("a", "b"), ("a", "b", "c"), (True, False, None), deep(tuple, 0, 19), deep(list, 0, 19),
        deep(tuple, (0, 0), 18), [deep(list, (0, 0), 17)], tuple([deep(list, 0, 17), 0]),
        tuple(range(4999)), list(range(4999)), "x" * 4000,
    ]


def spoiled(thing):
    """Each way to make a thing wrong in one place: truths for numbers, lists for tuples, other kinds, other lengths."""
    if isinstance(thing, int):
        return [None, str(thing), (thing,), [thing]] + ([thing == 1] if thing in (0, 1) else [True, False])
    told = [list(thing), thing[:-1], thing + (0,), None, ""]
    for at, part in enumerate(thing):
        told += [thing[:at] + (other,) + thing[at + 1:] for other in spoiled(part)]
    return told
