"""Slow, exact geometry by fractions: what the tests hold the program's answers against."""

import math
from fractions import Fraction


def doubled(a, b, c):
    return (b[0] - a[0]) * (c[1] - a[1]) - (b[1] - a[1]) * (c[0] - a[0])


def between(a, b):
    """All whole places on the straight line strictly between two."""
    steps = math.gcd(b[0] - a[0], b[1] - a[1])
    dx, dy = (b[0] - a[0]) // steps, (b[1] - a[1]) // steps
    return {(a[0] + k * dx, a[1] + k * dy) for k in range(1, steps)}


def on_stretch(a, b, place):
    """Whether a place lies on the straight line from a to b, ends too."""
    if doubled(a, b, place) != 0:
        return False
    return all(min(a[i], b[i]) <= place[i] <= max(a[i], b[i]) for i in (0, 1))


def places_in_common(one, other):
    """One place, or the ends of the stretch, that two straight lines between two places have in common."""
    (a, b), (c, d) = one, other
    whole = (b[0] - a[0]) * (d[1] - c[1]) - (b[1] - a[1]) * (d[0] - c[0])
    if whole == 0:
        return {place for place in (a, b) if on_stretch(c, d, place)} | {
            place for place in (c, d) if on_stretch(a, b, place)}
    part = Fraction((c[0] - a[0]) * (d[1] - c[1]) - (c[1] - a[1]) * (d[0] - c[0]), whole)
    place = (a[0] + part * (b[0] - a[0]), a[1] + part * (b[1] - a[1]))
    return {place} if on_stretch(a, b, place) and on_stretch(c, d, place) else set()


def do_cross(one, other):
    """By the words of the document: a place in common that is no common end, of unlike ones."""
    if one == other:
        return False
    common = places_in_common(one, other)
    return len(common) > 1 or any(place not in one or place not in other for place in common)


def within(three, place):
    """Whether a place lies within three others or on a side, by the areas it makes with them."""
    a, b, c = three
    parts = abs(doubled(a, b, place)) + abs(doubled(b, c, place)) + abs(doubled(c, a, place))
    return parts == abs(doubled(a, b, c))


def cut(places, a, b):
    """What of a convex round of places lies to the left of the line from a to b, or on it."""
    kept = []
    for here, there in zip(places, places[1:] + places[:1]):
        one, other = doubled(a, b, here), doubled(a, b, there)
        if one >= 0:
            kept.append(here)
        if one * other < 0:
            part = Fraction(one, one - other)
            kept.append((here[0] + part * (there[0] - here[0]), here[1] + part * (there[1] - here[1])))
    return kept


def left_about(three):
    a, b, c = three
    return [a, b, c] if doubled(a, b, c) > 0 else [a, c, b]


def common_area(one, other):
    """The doubled area that two triangles have in common, by cutting the one by the other's sides."""
    kept = left_about(one)
    sides = left_about(other)
    for a, b in zip(sides, sides[1:] + sides[:1]):
        kept = cut(kept, a, b)
    return sum(doubled(kept[0], b, c) for b, c in zip(kept[1:], kept[2:])) if kept else 0
