"""Texts by the words of the document: whole rows by a pattern, and which words can stand by trying to go on from them.

What the tests hold the program's answers against.
"""

import re

NUMBER = r"(?:0|-?[1-9][0-9]{0,11})"
POINT = NUMBER + "," + NUMBER
TIE = POINT + "/" + POINT
TRIANGLE = TIE + "/" + POINT

ROWS = {
    "points": f"-|{POINT}(?: {POINT})*",
    "ties": f"-|{TIE}(?: {TIE})*",
    "triangles": f"-|{TRIANGLE}(?: {TRIANGLE})*",
    "ring head": "ring",
    "ring row": f"{NUMBER} {NUMBER} {NUMBER}",
    "web head": "web",
    "web row": (f"(?:-|{TIE}(?: {TIE})*) =(?: {NUMBER})+ by "
                f"(?:none|split {TIE} {NUMBER} {NUMBER}|beside {NUMBER} {NUMBER})"),
}

# By one of these each beginning of a right row comes to its end.
MORE = ([], ["1"], ["1", "1"], ["1", "1", "1"], ["0,0"], ["0,0/1,0"], ["0,0/1,0/2,1"], ["0,0/1,0", "1", "1"], ["none"],
        ["by", "none"], ["1", "by", "none"], ["=", "1", "by", "none"])


def rise(word):
    points = [tuple(map(int, part.split(","))) for part in word.split("/")]
    return all(one < other for one, other in zip(points, points[1:]))


def is_whole(kind, words):
    """Whether words are a whole row of a kind."""
    return bool(re.fullmatch(ROWS[kind], " ".join(words))) and all(rise(word) for word in words if "/" in word)


def wrong_word(kind, text):
    """The first word that cannot stand, or how many there are where one is lacking; None where all is right."""
    words = text.split(" ")
    for at in range(len(words)):
        if not any(is_whole(kind, words[:at + 1] + more) for more in MORE):
            return at
    return None if is_whole(kind, words) else len(words)


def wrong_place(head, row, lines):
    """The first row and the word in it that are wrong in a paper; None where all is right."""
    if not lines:
        return 0, 0
    for at, text in enumerate(lines):
        word = wrong_word(row if at else head, text)
        if word is not None:
            return at, word
    return None


RIGHT_WORDS = (
    "0", "1", "-1", "12", "999999999999", "-999999999999", "0,0", "1,2", "-3,0", "0,-7", "0,0/1,0", "-1,5/-1,6",
    "0,0/0,1/1,0", "-2,3/0,0/0,1", "-", "=", "by", "none", "split", "beside", "ring", "web")
WRONG_WORDS = (
    "", "00", "-0", "01", "-01", "+1", "--1", "1-", "1.0", "1e3", "0x1", "1_0", "1000000000000", "-1000000000000", "a",
    "0,", ",0", ",", "1,2,3", "00,0", "0,-0", "0,01", "+1,0", "0;0", "0, 0", "0,1000000000000", "0,0/", "/0,0",
    "0,0//1,0", "0,0/0,0", "1,0/0,0", "0,0/1", "0/1", "0,0/1,0/1,0", "0,0/0,0/1,0", "0,1/0,0/1,0", "0,0/1,0/2,0/3,0",
    "0,0\\1,0", "==", "By", "BY", "None", "splits", "besides", "RING", "Web", "rings", "~", "_", "POINT", "NUMBER",
    "TIE", "TRIANGLE", "end", "points", "tie")
