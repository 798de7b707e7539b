"""The LAY that has told TIES."""

from threelays.errors import NoLay
from threelays.fields import hull
from threelays.ties import cross
from threelays.triangles import sides_of, triangles


def ties_in_a_lay(field):
    """Tell how many TIES each LAY of a FIELD has."""
    return 3 * len(field) - 3 - len(hull(field))


def some_cross(some):
    """Tell whether some two of a tuple of TIES CROSS."""
    return any(cross(one, other) for one in some for other in some)


def lay_of(field, some):
    """Tell the LAY of a FIELD whose TIES are just these; NoLay where there is none."""
    if len(some) != ties_in_a_lay(field) or some_cross(some):
        raise NoLay()
    # No other TIE has room beside these, so they leave TRIANGLES alone, and one with such sides is left as it is.
    return tuple([three for three in triangles(field) if all(tie in some for tie in sides_of(three))])
