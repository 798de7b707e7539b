"""[84]: texts read as points, ties, triangles and papers."""

import itertools
import random
import unittest

from tests.texttrying import RIGHT_WORDS, WRONG_WORDS, wrong_place, wrong_word
from threelays.errors import LayError, NoText
from threelays.readings import read_points, read_ring, read_ties, read_triangles, read_web

READS = (("points", read_points, "0,0", (0, 0)), ("ties", read_ties, "0,0/1,0", ((0, 0), (1, 0))),
         ("triangles", read_triangles, "0,0/0,1/1,0", ((0, 0), (0, 1), (1, 0))))
TIE = ((0, 0), (1, 0))
WEB_ROWS = (
    "- = 1 by none", "0,0/1,0 = 1 1 by split 0,0/1,0 0 0", "0,0/1,0 0,0/4,-1 = 1 -2 0 by beside 1 12",
    "- = 5 0 by beside -1 -2", "0,0/1,0 0,0/1,0 = 0 by split 7,7/8,8 3 4")


def refused(read, thing):
    """The row and the word with which a text, a list of texts is refused; None where it is read."""
    try:
        read(thing)
    except NoText as error:
        return error.row, error.word
    return None


def as_text(text):
    return None if text is None else (0, text)


class TupleTests(unittest.TestCase):

    def test_told_ones(self):
        self.assertEqual(read_points("0,0 4,-1"), ((0, 0), (4, -1)))
        self.assertEqual(read_points("5,5 0,0 5,5"), ((5, 5), (0, 0), (5, 5)))
        self.assertEqual(read_points("999999999999,-999999999999"), ((999999999999, -999999999999),))
        self.assertEqual(read_ties("0,0/4,-1 0,0/1,0 0,0/4,-1"), (((0, 0), (4, -1)), TIE, ((0, 0), (4, -1))))
        self.assertEqual(read_triangles("0,0/4,-1/5,3"), (((0, 0), (4, -1), (5, 3)),))
        self.assertEqual(read_triangles("0,0/1,1/2,2"), (((0, 0), (1, 1), (2, 2)),))
        for kind, read, word, thing in READS:
            self.assertEqual(read("-"), ())
            self.assertEqual(read(text=word), (thing,))

    def test_the_error(self):
        with self.assertRaises(LayError) as caught:
            read_points("0,0 x")
        self.assertIs(caught.exception.__class__, NoText)
        self.assertEqual(vars(caught.exception), {"row": 0, "word": 1})

    def test_blanks(self):
        for kind, read, word, thing in READS:
            self.assertEqual(refused(read, ""), (0, 0))
            self.assertEqual(refused(read, " "), (0, 0))
            self.assertEqual(refused(read, " " + word), (0, 0))
            self.assertEqual(refused(read, word + " "), (0, 1))
            self.assertEqual(refused(read, word + "  " + word), (0, 1))
            self.assertEqual(refused(read, word + " " + word + " "), (0, 2))
            self.assertEqual(refused(read, "- "), (0, 1))
            self.assertEqual(refused(read, " -"), (0, 0))

    def test_none_among_others(self):
        for kind, read, word, thing in READS:
            self.assertEqual(refused(read, "- -"), (0, 1))
            self.assertEqual(refused(read, "- " + word), (0, 1))
            self.assertEqual(refused(read, word + " -"), (0, 1))
            self.assertEqual(refused(read, word + " " + word + " - " + word), (0, 2))

    def test_numbers(self):
        for number in ("00", "-0", "01", "+1", "1000000000000", "-1000000000000", "--1", "", "-", "1.", "x", "0x1",
                       "1_0"):
            for text in (number + ",0", "0," + number):
                self.assertEqual(refused(read_points, text), (0, 0), text)
                self.assertEqual(refused(read_points, "0,0 " + text), (0, 1), text)
        for number in (0, 7, -7, 10, -10, 100000000000, 999999999999, -999999999999):
            self.assertEqual(read_points(f"{number},0 0,{number}"), ((number, 0), (0, number)))
            self.assertIs(read_points(f"{number},0")[0][0].__class__, int)

    def test_words_that_are_none(self):
        for text in ("1,2,3", "1", "1,2/3,4", ",", "1,", "0,0,", "0;0", "(0,0)", "0,0/", "/0,0"):
            self.assertEqual(refused(read_points, text), (0, 0), text)
        for text in ("0,0", "0,0/0,0", "1,0/0,0", "0,0/1,0/2,0", "0,0/1", "0,0//1,0", "0,0/1,0/"):
            self.assertEqual(refused(read_ties, text), (0, 0), text)
        for text in ("0,0/1,0", "0,0/1,0/1,0", "0,0/0,0/1,0", "0,1/0,0/1,0", "0,0/2,0/1,0", "0,0/1,0/2,0/3,0"):
            self.assertEqual(refused(read_triangles, text), (0, 0), text)

    def test_against_trying(self):
        for kind, read, word, thing in READS:
            for other in RIGHT_WORDS + WRONG_WORDS:
                for text in (other, word + " " + other, other + " " + word, word + " " + other + " " + word,
                             "- " + other):
                    self.assertEqual(refused(read, text), as_text(wrong_word(kind, text)), text)

    def test_by_chance(self):
        source = random.Random(84)
        for step in range(3000):
            text = "".join(source.choice("0011-,,// ~") for sign in range(source.randrange(12)))
            for kind, read, word, thing in READS:
                self.assertEqual(refused(read, text), as_text(wrong_word(kind, text)), text)

    def test_long_texts(self):
        text = " ".join(["0,0"] * 1000)
        self.assertEqual(len(read_points(text)), 1000)
        self.assertEqual(refused(read_points, text + " x"), (0, 1000))
        for text in ("x" * 4000, " " * 4000, "-" * 4000, "1" * 4000, "," * 4000, "/" * 4000, "~" * 4000):
            for kind, read, word, thing in READS:
                self.assertEqual(refused(read, text), (0, 0))


class RingTests(unittest.TestCase):

    def test_told_ones(self):
        self.assertEqual(read_ring(["ring"]), ())
        self.assertEqual(read_ring(["ring", "0 2 1", "-5 7 0"]), ((0, 2, 1), (-5, 7, 0)))
        self.assertEqual(read_ring(lines=["ring", "0 2 1"]), ((0, 2, 1),))

    def test_wrong_rows(self):
        for lines, told in (
                ([], (0, 0)), ([""], (0, 0)), (["web"], (0, 0)), (["Ring"], (0, 0)), (["ring "], (0, 1)),
                (["ring ring"], (0, 1)), ([" ring"], (0, 0)), (["0 2 1"], (0, 0)), (["ring 0 2 1"], (0, 1)),
                (["ring", ""], (1, 0)), (["ring", "-"], (1, 0)), (["ring", "0 2"], (1, 2)), (["ring", "0"], (1, 1)),
                (["ring", "0 2 "], (1, 2)), (["ring", "0 2 1 "], (1, 3)), (["ring", "0 2 1 1"], (1, 3)),
                (["ring", "0  2 1"], (1, 1)), (["ring", " 0 2 1"], (1, 0)), (["ring", "ring"], (1, 0)),
                (["ring", "0 2 1", "0 x 1"], (2, 1)), (["ring", "0 2 01"], (1, 2)), (["ring", "0 -0 1"], (1, 1)),
                (["ring", "0,2 1 1"], (1, 0)), (["ring", "0 2 1000000000000"], (1, 2)),
                # The first row with a fault goes, whatever stands behind it.
                (["ring", "0 2", "x"], (1, 2)), (["ring x", "x"], (0, 1)), (["ring", "0 2 1", "1 2 3 4", ""], (2, 3))):
            self.assertEqual(refused(read_ring, lines), told, lines)
            self.assertEqual(wrong_place("ring head", "ring row", lines), told, lines)

    def test_against_trying(self):
        for words in itertools.product(("0", "-12", "00", "", "ring", "1,2", "-"), repeat=3):
            for many in range(4):
                lines = ["ring", "1 2 3", " ".join(words[:many] + ("5",)), "x"]
                self.assertEqual(refused(read_ring, lines), wrong_place("ring head", "ring row", lines))
        for word in RIGHT_WORDS + WRONG_WORDS:
            for lines in ([word], [word, "0 1 1"], ["ring", word], ["ring " + word]):
                self.assertEqual(refused(read_ring, lines), wrong_place("ring head", "ring row", lines))


class WebTests(unittest.TestCase):

    def test_told_ones(self):
        self.assertEqual(read_web(["web"]), ())
        self.assertEqual(read_web(["web", "- = 1 by none"]), (((), (1,), ("none",)),))
        self.assertEqual(read_web(lines=["web"] + list(WEB_ROWS)), (
            ((), (1,), ("none",)), ((TIE,), (1, 1), ("split", TIE, 0, 0)),
            ((TIE, ((0, 0), (4, -1))), (1, -2, 0), ("beside", 1, 12)), ((), (5, 0), ("beside", -1, -2)),
            ((TIE, TIE), (0,), ("split", ((7, 7), (8, 8)), 3, 4))))

    def test_wrong_rows(self):
        for lines, told in (
                ([], (0, 0)), ([""], (0, 0)), (["ring"], (0, 0)), (["web "], (0, 1)), (["web", ""], (1, 0)),
                (["web", "-"], (1, 1)), (["web", "- ="], (1, 2)), (["web", "- = 1"], (1, 3)),
                (["web", "- = 1 by"], (1, 4)), (["web", "- = 1 by none "], (1, 5)),
                (["web", "- = 1 by none 0"], (1, 5)),
                (["web", "- = by none"], (1, 2)), (["web", "= 1 by none"], (1, 0)), (["web", "- 1 by none"], (1, 1)),
                (["web", "- - = 1 by none"], (1, 1)), (["web", "0,0/1,0 - = 1 by none"], (1, 1)),
                (["web", "- 0,0/1,0 = 1 by none"], (1, 1)), (["web", "- = = 1 by none"], (1, 2)),
                (["web", "- = 1 1 by by none"], (1, 5)), (["web", "- = 1 by split"], (1, 5)),
                (["web", "- = 1 by split 0,0/1,0"], (1, 6)), (["web", "- = 1 by split 0,0/1,0 0"], (1, 7)),
                (["web", "- = 1 by split 0,0/1,0 0 0 0"], (1, 8)), (["web", "- = 1 by split 0 0"], (1, 5)),
                (["web", "- = 1 by split - 0 0"], (1, 5)), (["web", "- = 1 by split 1,0/0,0 0 0"], (1, 5)),
                (["web", "- = 1 by beside"], (1, 5)), (["web", "- = 1 by beside 0"], (1, 6)),
                (["web", "- = 1 by beside 0,0/1,0 0 0"], (1, 5)), (["web", "- = 1 by beside 0 0 0"], (1, 7)),
                (["web", "1,0/0,0 = 1 by none"], (1, 0)), (["web", "0,0/1,0/2,1 = 1 by none"], (1, 0)),
                (["web", "0,0 = 1 by none"], (1, 0)), (["web", "- = - by none"], (1, 2)),
                (["web", "- = 01 by none"], (1, 2)), (["web", "- = 1  by none"], (1, 3)),
                (["web", "- = 1 by none", "- = 1 by some"], (2, 4)), (["web", "- = 1 by none", "x", ""], (2, 0))):
            self.assertEqual(refused(read_web, lines), told, lines)
            self.assertEqual(wrong_place("web head", "web row", lines), told, lines)

    def test_each_word_in_each_place(self):
        for row in WEB_ROWS:
            words = row.split(" ")
            for at in range(len(words) + 1):
                for other in RIGHT_WORDS + WRONG_WORDS:
                    for made in (words[:at] + [other] + words[at:], words[:at] + [other] + words[at + 1:]):
                        lines = ["web", "- = 1 by none", " ".join(made), "- = 1 by none"]
                        self.assertEqual(refused(read_web, lines), wrong_place("web head", "web row", lines), lines)

    def test_rows_cut_and_put_together(self):
        pieces = [row.split(" ") for row in WEB_ROWS]
        for one, other in itertools.product(pieces, repeat=2):
            for i, j in itertools.product(range(len(one) + 1), range(len(other) + 1)):
                text = " ".join(one[:i] + other[j:])
                told = wrong_word("web row", text)
                self.assertEqual(refused(read_web, ["web", text]), None if told is None else (1, told), text)


class HandedInTests(unittest.TestCase):

    def test_lists_stay_and_answers_are_alike(self):
        for read, lines in ((read_ring, ["ring", "0 2 1"]), (read_web, ["web"] + list(WEB_ROWS)), (read_ring, []),
                            (read_web, ["web", "x"])):
            kept = list(lines)
            first = refused(read, lines)
            self.assertEqual(lines, kept)
            self.assertEqual(refused(read, lines), first)
            if first is None:
                told = read(lines)
                lines.append("x")
                lines[0] = "y"
                self.assertEqual(told, read(kept))
                self.assertIs(told.__class__, tuple)
