"""[83]: points, ties, triangles and papers written as texts."""

import unittest

from tests.roundtrying import RINGS, SPOT_RING, SQUARE_RING
from tests.samples import FIELDS, GRID_THREE, SPOT, SQUARE
from tests.test_webchecker import NONE
from tests.texttrying import is_whole
from tests.webtrying import SIXES, tried_web_paper
from threelays.readings import read_points, read_ring, read_ties, read_triangles, read_web
from threelays.ringpapers import ring_paper
from threelays.texts import shown_points, shown_ring, shown_ties, shown_triangles, shown_web
from threelays.ties import ties
from threelays.triangles import triangles
from threelays.webpapers import web_paper

TIE = ((0, 0), (4, -1))
GREATEST = 999999999999


class TupleTests(unittest.TestCase):

    def test_points(self):
        self.assertEqual(shown_points(((0, 0), (4, -1))), "0,0 4,-1")
        self.assertEqual(shown_points(()), "-")
        self.assertEqual(shown_points(((-1000, 1000),)), "-1000,1000")
        self.assertEqual(shown_points(((GREATEST, -GREATEST),)), "999999999999,-999999999999")
        # In any order, alike ones too.
        self.assertEqual(shown_points(((5, 5), (0, 0), (5, 5))), "5,5 0,0 5,5")
        self.assertEqual(shown_points(points=SQUARE), "0,0 0,1 1,0 1,1")

    def test_ties(self):
        self.assertEqual(shown_ties((TIE,)), "0,0/4,-1")
        self.assertEqual(shown_ties(()), "-")
        self.assertEqual(shown_ties((TIE, ((-2, 3), (-2, 4)), TIE)), "0,0/4,-1 -2,3/-2,4 0,0/4,-1")
        self.assertEqual(shown_ties(some=(TIE,)), "0,0/4,-1")

    def test_triangles(self):
        self.assertEqual(shown_triangles((((0, 0), (4, -1), (5, 3)),)), "0,0/4,-1/5,3")
        self.assertEqual(shown_triangles(()), "-")
        # Any rising points, on one line too.
        flat = ((0, 0), (1, 1), (2, 2))
        self.assertEqual(shown_triangles((flat, SPOT, flat)), "0,0/1,1/2,2 0,0/0,1/1,0 0,0/1,1/2,2")
        self.assertEqual(shown_triangles(some=(SPOT,)), "0,0/0,1/1,0")

    def test_written_and_read_back(self):
        for field in FIELDS:
            for show, read, kind, things in (
                    (shown_points, read_points, "points", field), (shown_ties, read_ties, "ties", ties(field)),
                    (shown_triangles, read_triangles, "triangles", triangles(field))):
                for some in (things, things[::-1], things[:1], (), things[:2] * 2):
                    text = show(some)
                    self.assertIs(text.__class__, str)
                    self.assertTrue(is_whole(kind, text.split(" ")))
                    self.assertEqual(read(text), some)


class PaperTests(unittest.TestCase):

    def test_rings(self):
        self.assertEqual(shown_ring(()), ["ring"])
        self.assertEqual(shown_ring(((0, 2, 1),)), ["ring", "0 2 1"])
        self.assertEqual(shown_ring(((0, 2, 1), (-5, 12, GREATEST), (0, 0, -1))),
                         ["ring", "0 2 1", "-5 12 999999999999", "0 0 -1"])
        self.assertEqual(shown_ring(paper=ring_paper(SPOT_RING))[0], "ring")

    def test_webs(self):
        self.assertEqual(shown_web(()), ["web"])
        self.assertEqual(shown_web((NONE,)), ["web", "- = 1 by none"])
        tie = ((0, 0), (1, 0))
        paper = (NONE, ((tie,), (1, 1), ("split", tie, 0, 0)), ((tie, TIE), (1, -2, 0), ("beside", 1, 12)))
        self.assertEqual(shown_web(paper), [
            "web", "- = 1 by none", "0,0/1,0 = 1 1 by split 0,0/1,0 0 0", "0,0/1,0 0,0/4,-1 = 1 -2 0 by beside 1 12"])
        self.assertEqual(shown_web(paper=(NONE,)), ["web", "- = 1 by none"])

    def test_written_and_read_back(self):
        for ring in RINGS:
            paper = ring_paper(ring)
            self.assertEqual(read_ring(shown_ring(paper)), paper)
        for field in SIXES:
            for paper in (web_paper(field), tried_web_paper(field, 5), tried_web_paper(field, 6)):
                told = shown_web(paper)
                self.assertEqual(len(told), len(paper) + 1)
                self.assertEqual(read_web(told), paper)
        self.assertEqual(read_ring(shown_ring(())), ())
        self.assertEqual(read_web(shown_web(())), ())

    def test_papers_by_kind_alone(self):
        paper = ((3, 0, -7), (0, 0, 0), (GREATEST, -GREATEST, 5))
        self.assertEqual(read_ring(shown_ring(paper)), paper)
        paper = (((TIE, ((0, 0), (2, 2)), TIE), (0, 0, 5), ("split", ((9, 9), (9, 10)), -3, 77)), ((), (7,), ("none",)),
                 ((), (GREATEST,), ("beside", -GREATEST, 0)))
        self.assertEqual(read_web(shown_web(paper)), paper)

    def test_new_lists(self):
        for show, paper in ((shown_ring, ring_paper(SQUARE_RING)), (shown_web, web_paper(SPOT))):
            first = show(paper)
            kept = list(first)
            first[0] = "x"
            first.append("y")
            self.assertEqual(show(paper), kept)
            self.assertIsNot(show(paper), show(paper))

    def test_what_is_handed_in_stays(self):
        for show, thing in ((shown_points, GRID_THREE), (shown_ties, ties(SQUARE)), (shown_ring, ring_paper(SPOT_RING)),
                            (shown_triangles, triangles(SQUARE)), (shown_web, web_paper(SPOT))):
            before = repr(thing)
            first = show(thing)
            self.assertEqual(repr(thing), before)
            self.assertEqual(show(thing), first)
