"""Words of texts: what each one writes, and which can stand where."""

from threelays.points import rises

FIGURES = "0123456789"
MOST_FIGURES = 12

# How many rising POINTS a word of a kind writes.
MANY_POINTS = {"POINT": 1, "TIE": 2, "TRIANGLE": 3}

# For each place in a row the words that can stand there, each with the place behind it.
# Those in great letters are kinds; all others stand for themselves.
STEPS = {
    "points": (("-", "end"), ("POINT", "more points")),
    "more points": (("POINT", "more points"),),
    "ties": (("-", "end"), ("TIE", "more ties")),
    "more ties": (("TIE", "more ties"),),
    "triangles": (("-", "end"), ("TRIANGLE", "more triangles")),
    "more triangles": (("TRIANGLE", "more triangles"),),
    "ring head": (("ring", "end"),),
    "ring row": (("NUMBER", "two numbers"),),
    "web head": (("web", "end"),),
    "web row": (("-", "equals"), ("TIE", "more web ties")),
    "more web ties": (("TIE", "more web ties"), ("=", "web numbers")),
    "equals": (("=", "web numbers"),),
    "web numbers": (("NUMBER", "more web numbers"),),
    "more web numbers": (("NUMBER", "more web numbers"), ("by", "rule")),
    "rule": (("none", "end"), ("split", "split tie"), ("beside", "two numbers")),
    "split tie": (("TIE", "two numbers"),),
    "two numbers": (("NUMBER", "one number"),),
    "one number": (("NUMBER", "end"),),
    "desk row": (
        ("field", "points"), ("points", "end"), ("walls", "end"), ("lay", "end"), ("put", "one point"),
        ("take", "one point"), ("wall", "one tie"), ("unwall", "one tie"), ("back", "end"), ("count", "end"),
        ("at", "one number"), ("webs", "end"), ("ring", "points")),
    "one point": (("POINT", "end"),),
    "one tie": (("TIE", "end"),),
    "end": (),
}

# The places at which a row may be at its end.
ENDS = ("end", "more points", "more ties", "more triangles")


def is_number_word(word):
    """Tell whether a word writes a NUMBER."""
    figures = word[1:] if word.startswith("-") else word
    if not 1 <= len(figures) <= MOST_FIGURES or not all(sign in FIGURES for sign in figures):
        return False
    # What is written anew has no 0 ahead that isn't wanted, and no - ahead of 0.
    return str(int(word)) == word


def is_point_word(word):
    """Tell whether a word writes a POINT."""
    parts = word.split(",")
    return len(parts) == 2 and all(is_number_word(part) for part in parts)


def point_of(word):
    """Tell the POINT that a word writes."""
    x, y = word.split(",")
    return (int(x), int(y))


def corners_of(word):
    """Tell the tuple of POINTS that a word writes, a / between each two."""
    return tuple([point_of(part) for part in word.split("/")])


def fits(kind, word):
    """Tell whether a word is of a kind."""
    if kind == "NUMBER":
        return is_number_word(word)
    if kind in MANY_POINTS:
        parts = word.split("/")
        if len(parts) != MANY_POINTS[kind] or not all(is_point_word(part) for part in parts):
            return False
        return rises(corners_of(word))
    return word == kind


def misplaced(place, words):
    """Tell the first of words that cannot stand, from a place in a row on; how many there are where one is lacking.

    It is -1 where each can stand, and none is lacking.
    """
    here = place
    for at, word in enumerate(words):
        ways = [behind for kind, behind in STEPS[here] if fits(kind, word)]
        if not ways:
            return at
        here = ways[0]
    return -1 if here in ENDS else len(words)


def points_of(words):
    """Tell the tuple of POINTS that words write, - alone none."""
    return tuple([point_of(word) for word in words if word != "-"])


def corners_of_all(words):
    """Tell the tuple of TIES or of TRIANGLES that words write, - alone none."""
    return tuple([corners_of(word) for word in words if word != "-"])


def numbers_of(words):
    """Tell the tuple of NUMBERS that words write."""
    return tuple([int(word) for word in words])
