"""Promise 4: titles and breaks."""

import unittest

from tests.telling import LARGEST, PLACES, ask, breaks, said, titles


class Titles(unittest.TestCase):
    def test_ordinary_titles(self):
        self.assertEqual(ask(titles(0, 0, 2)), [said(0)])
        self.assertEqual(ask(titles(1, 3, 4)), [said(0)])

    def test_none(self):
        for way in (0, 1):
            self.assertEqual(ask(titles(way)), [said(0)])
            self.assertEqual(ask(titles(way, 1, 2), titles(way), titles(way, 0, 0)), [said(0)] * 3)

    def test_from_equal_to_to_and_above_it(self):
        for way in (0, 1):
            self.assertEqual(ask(titles(way, 5, 5)), [said(0)])
            self.assertEqual(ask(titles(way, 6, 5)), [said(-1)])
            self.assertEqual(ask(titles(way, LARGEST, 5)), [said(-1)])

    def test_to_at_the_last_place_and_beyond(self):
        for way in (0, 1):
            last = PLACES[way] - 1
            self.assertEqual(ask(titles(way, 0, last)), [said(0)])
            self.assertEqual(ask(titles(way, last, last)), [said(0)])
            self.assertEqual(ask(titles(way, 0, last + 1)), [said(-1)])
            self.assertEqual(ask(titles(way, last + 1, last + 1)), [said(-1)])
            self.assertEqual(ask(titles(way, 0, LARGEST)), [said(-1)])

    def test_a_row_may_lie_where_no_column_is(self):
        self.assertEqual(ask(titles(0, 0, 256), titles(1, 0, 256)), [said(0), said(-1)])


class Breaks(unittest.TestCase):
    def test_ordinary_breaks(self):
        self.assertEqual(ask(breaks(0, [10, 20, 15])), [said(0)])
        self.assertEqual(ask(breaks(1, [0])), [said(0)])

    def test_none(self):
        for way in (0, 1):
            self.assertEqual(ask(breaks(way, [])), [said(0)])
            self.assertEqual(ask(breaks(way, [3]), breaks(way, []), breaks(way, [4])), [said(0)] * 3)

    def test_at_the_last_place_and_beyond(self):
        for way in (0, 1):
            last = PLACES[way] - 1
            self.assertEqual(ask(breaks(way, [last])), [said(0)])
            self.assertEqual(ask(breaks(way, [last + 1])), [said(-1)])
            self.assertEqual(ask(breaks(way, [LARGEST])), [said(-1)])

    def test_one_beyond_refuses_all(self):
        for way in (0, 1):
            beyond = PLACES[way]
            self.assertEqual(ask(breaks(way, [beyond, 1, 2])), [said(-1)])
            self.assertEqual(ask(breaks(way, [1, beyond, 2])), [said(-1)])
            self.assertEqual(ask(breaks(way, [1, 2, beyond])), [said(-1)])

    def test_a_row_may_lie_where_no_column_is(self):
        self.assertEqual(ask(breaks(0, [256]), breaks(1, [256])), [said(0), said(-1)])

    def test_500_and_501(self):
        self.assertEqual(ask(breaks(0, range(500))), [said(0)])
        self.assertEqual(ask(breaks(0, range(501))), [said(-5)])
        self.assertEqual(ask(breaks(0, range(600))), [said(-5)])

    def test_a_place_told_again_counts_again(self):
        for way in (0, 1):
            self.assertEqual(ask(breaks(way, [7] * 500)), [said(0)])
            self.assertEqual(ask(breaks(way, [7] * 501)), [said(-5)])

    def test_one_beyond_is_answered_ahead_of_too_many(self):
        for way in (0, 1):
            beyond = PLACES[way]
            self.assertEqual(ask(breaks(way, [beyond] + [7] * 500)), [said(-1)])
            self.assertEqual(ask(breaks(way, [7] * 500 + [beyond])), [said(-1)])

    def test_these_are_instead_of_those_before(self):
        full = breaks(0, range(500))
        self.assertEqual(ask(full, full, breaks(0, range(1, 501)), breaks(0, [4000])), [said(0)] * 4)
