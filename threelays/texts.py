"""POINTS, TIES, TRIANGLES and papers written as texts."""


def shown_numbers(some):
    """Tell the text of some NUMBERS, a blank between each two."""
    return " ".join([str(number) for number in some])


def shown_corners(some):
    """Tell the text of a TIE or a TRIANGLE, a tuple of POINTS."""
    return "/".join([str(x) + "," + str(y) for x, y in some])


def shown_tuple(words):
    """Tell the text of words, a blank between each two, - where there are none."""
    return " ".join(words) if words else "-"


def shown_points(points):
    """Tell the text of a tuple of POINTS."""
    return shown_tuple([shown_corners((point,)) for point in points])


def shown_ties(some):
    """Tell the text of a tuple of TIES."""
    return shown_tuple([shown_corners(tie) for tie in some])


def shown_triangles(some):
    """Tell the text of a tuple of TRIANGLES."""
    return shown_tuple([shown_corners(triangle) for triangle in some])


def shown_ring(paper):
    """Tell the texts of a RING PAPER, a list."""
    return ["ring"] + [shown_numbers(row) for row in paper]


def shown_rule(rule):
    """Tell the text of a rule of a WEB PAPER."""
    if rule[0] == "split":
        return " ".join([rule[0], shown_corners(rule[1]), shown_numbers(rule[2:])])
    if rule[0] == "beside":
        return " ".join([rule[0], shown_numbers(rule[1:])])
    return rule[0]


def shown_web_row(row):
    """Tell the text of a row of a WEB PAPER."""
    some, numbers, rule = row
    return " ".join([shown_ties(some), "=", shown_numbers(numbers), "by", shown_rule(rule)])


def shown_web(paper):
    """Tell the texts of a WEB PAPER, a list."""
    return ["web"] + [shown_web_row(row) for row in paper]
