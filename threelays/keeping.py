"""A keeper of POINTS and WALLS that come and go, and of their LAY."""

from threelays.errors import Crossed, NoPoint, NoStep, NoTie, TooMany
from threelays.fields import is_field
from threelays.plain import plain_lay
from threelays.points import is_point
from threelays.ties import cross, is_parted, is_tie

MOST_POINTS = 16
FARTHEST = 1000


def are_near(points):
    """Tell whether no coordinate of some POINTS is below -1000 or above 1000."""
    return all(abs(x) <= FARTHEST and abs(y) <= FARTHEST for x, y in points)


def look_at_put(field, walls, thing):
    """Refuse a thing that is no POINT which could come to a FIELD with WALLS."""
    if not is_point(thing):
        raise NoPoint("shape")
    if not are_near((thing,)):
        raise NoPoint("far")
    if thing in field:
        raise NoPoint("there")
    if any(is_parted((thing,), wall) for wall in walls):
        raise NoPoint("wall")
    if len(field) >= MOST_POINTS:
        raise TooMany("points")


def look_at_take(field, walls, thing):
    """Refuse a thing that is no POINT which could go from a FIELD with WALLS."""
    # Truths compare like numbers, so its kind is asked before it is compared.
    if not is_point(thing) or thing not in field:
        raise NoPoint("lacks")
    if any(thing in wall for wall in walls):
        raise NoPoint("wall")
    if not is_field(without(field, thing)):
        raise NoPoint("line")


def look_at_wall(field, walls, thing):
    """Refuse a thing that is no TIE which could come to the WALLS of a FIELD."""
    if not is_tie(field, thing):
        raise NoTie("shape")
    if thing in walls:
        raise NoTie("there")
    for wall in walls:
        if cross(wall, thing):
            raise Crossed(wall)


def without(some, thing):
    """Tell a tuple without a thing that it has."""
    return tuple([other for other in some if other != thing])


def exchange(ahead, behind):
    """Tell what the LAY ahead of a deed has and the one behind it hasn't, and what this one has and that one hasn't."""
    went = tuple([triangle for triangle in ahead if triangle not in behind])
    came = tuple([triangle for triangle in behind if triangle not in ahead])
    return (went, came)


class Keeper:
    """It keeps POINTS and WALLS, and tells the one LAY that has these WALLS and all else PLAIN."""

    def __init__(self, field):
        if len(field) > MOST_POINTS:
            raise TooMany("points")
        self.held = (field, (), plain_lay(field, ()))
        self.past = []

    def points(self):
        """Tell its POINTS, a FIELD."""
        return self.held[0]

    def walls(self):
        """Tell its WALLS, rising."""
        return self.held[1]

    def lay(self):
        """Tell its LAY."""
        return self.held[2]

    def change(self, field, walls):
        """Do a deed that leads to a FIELD and WALLS; tell the TRIANGLES that went and those that came."""
        ahead = self.held
        self.held = (field, walls, plain_lay(field, walls))
        self.past.append(ahead)
        return exchange(ahead[2], self.lay())

    def put(self, thing):
        """Put a POINT in."""
        look_at_put(self.points(), self.walls(), thing)
        return self.change(tuple(sorted(self.points() + (thing,))), self.walls())

    def take(self, thing):
        """Take a POINT away."""
        look_at_take(self.points(), self.walls(), thing)
        return self.change(without(self.points(), thing), self.walls())

    def wall(self, thing):
        """Make a TIE a WALL."""
        look_at_wall(self.points(), self.walls(), thing)
        return self.change(self.points(), tuple(sorted(self.walls() + (thing,))))

    def unwall(self, thing):
        """Make a WALL a TIE like others."""
        if not is_tie(self.points(), thing) or thing not in self.walls():
            raise NoTie("lacks")
        return self.change(self.points(), without(self.walls(), thing))

    def back(self):
        """Take the last deed back that is not yet taken back."""
        if not self.past:
            raise NoStep()
        ahead = self.held
        self.held = self.past.pop()
        return exchange(ahead[2], self.lay())
