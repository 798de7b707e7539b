"""Texts read as POINTS, TIES, TRIANGLES and papers."""

from threelays.errors import NoText
from threelays.words import corners_of, corners_of_all, misplaced, numbers_of, points_of


def right_words(text, row, place):
    """Tell the words of a text, the row of a number; NoText where, from a place on, they cannot stand."""
    words = text.split(" ")
    at = misplaced(place, words)
    if at >= 0:
        raise NoText(row, at)
    return words


def read_points(text):
    """Tell the tuple of POINTS that a text writes, or NoText."""
    return points_of(right_words(text, 0, "points"))


def read_ties(text):
    """Tell the tuple of TIES that a text writes, or NoText."""
    return corners_of_all(right_words(text, 0, "ties"))


def read_triangles(text):
    """Tell the tuple of TRIANGLES that a text writes, or NoText."""
    return corners_of_all(right_words(text, 0, "triangles"))


def right_rows(lines, head, place):
    """Tell the words of each row of a paper behind its head, or NoText."""
    if not lines:
        raise NoText(0, 0)
    right_words(lines[0], 0, head)
    return [right_words(lines[at], at, place) for at in range(1, len(lines))]


def read_ring(lines):
    """Tell the RING PAPER that a list of texts writes, or NoText."""
    return tuple([numbers_of(words) for words in right_rows(lines, "ring head", "ring row")])


def read_rule(words):
    """Tell the rule of a WEB PAPER that words write."""
    if words[0] == "split":
        return (words[0], corners_of(words[1])) + numbers_of(words[2:])
    return (words[0],) + numbers_of(words[1:])


def read_web_row(words):
    """Tell the row of a WEB PAPER that words write."""
    equals = words.index("=")
    by = words.index("by")
    return (corners_of_all(words[:equals]), numbers_of(words[equals + 1:by]), read_rule(words[by + 1:]))


def read_web(lines):
    """Tell the WEB PAPER that a list of texts writes, or NoText."""
    return tuple([read_web_row(words) for words in right_rows(lines, "web head", "web row")])
