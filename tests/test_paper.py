"""Promise 2: paper."""

import unittest

from tests.telling import LARGEST, ask, paper, said


class Paper(unittest.TestCase):
    def assert_taken(self, *numbers):
        self.assertEqual(ask(paper(*numbers)), [said(0)], numbers)

    def assert_refused(self, *numbers):
        self.assertEqual(ask(paper(*numbers)), [said(-1)], numbers)

    def test_an_ordinary_paper(self):
        self.assert_taken(595, 842, 50, 50, 50, 50)
        self.assert_taken(842, 595, 20, 30, 40, 50)
        self.assert_taken(1, 1, 0, 0, 0, 0)

    def test_width_and_height_at_100000_and_above(self):
        self.assert_taken(100000, 842, 50, 50, 50, 50)
        self.assert_taken(595, 100000, 50, 50, 50, 50)
        self.assert_taken(100000, 100000, 0, 0, 0, 0)
        self.assert_refused(100001, 842, 50, 50, 50, 50)
        self.assert_refused(595, 100001, 50, 50, 50, 50)
        self.assert_refused(LARGEST, 842, 50, 50, 50, 50)
        self.assert_refused(595, LARGEST, 50, 50, 50, 50)

    def test_edges_across_below_equal_to_and_above_the_width(self):
        self.assert_taken(100, 900, 60, 39, 0, 0)
        self.assert_refused(100, 900, 60, 40, 0, 0)
        self.assert_refused(100, 900, 60, 41, 0, 0)

    def test_edges_down_below_equal_to_and_above_the_height(self):
        self.assert_taken(900, 100, 0, 0, 60, 39)
        self.assert_refused(900, 100, 0, 0, 60, 40)
        self.assert_refused(900, 100, 0, 0, 60, 41)

    def test_one_edge_alone_takes_all_space(self):
        for place in range(4):
            edges = [0, 0, 0, 0]
            edges[place] = 99
            self.assert_taken(100, 100, *edges)
            edges[place] = 100
            self.assert_refused(100, 100, *edges)
            edges[place] = LARGEST
            self.assert_refused(100, 100, *edges)

    def test_each_direction_has_its_own_edges(self):
        self.assert_taken(100, 20, 40, 40, 5, 5)
        self.assert_taken(20, 100, 5, 5, 40, 40)
        self.assert_refused(20, 100, 40, 40, 5, 5)
        self.assert_refused(100, 20, 5, 5, 40, 40)

    def test_no_width_or_no_height(self):
        self.assert_refused(0, 842, 0, 0, 0, 0)
        self.assert_refused(595, 0, 0, 0, 0, 0)

    def test_papers_one_behind_another(self):
        told = ask(paper(100, 100, 9, 9, 9, 9), paper(10, 10, 5, 5, 0, 0), paper(10, 10, 4, 5, 0, 0))
        self.assertEqual(told, [said(0), said(-1), said(0)])
