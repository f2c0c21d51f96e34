"""Promise 1: size."""

import unittest

from tests.telling import BEGINS, LARGEST, PLACES, ask, said, size


class Size(unittest.TestCase):
    def test_answers_how_many_were_told(self):
        self.assertEqual(ask(size(0, 0, 9, 30)), [said(1)])
        self.assertEqual(
            ask(size(0, 0, 9, 30), size(0, 5, 5, 0), size(0, 0, 9, 30)), [said(1), said(2), said(3)]
        )

    def test_each_way_is_counted_by_itself(self):
        self.assertEqual(
            ask(size(0, 1, 2, 3), size(1, 1, 2, 3), size(1, 1, 2, 3), size(0, 1, 2, 3)),
            [said(1), said(1), said(2), said(2)],
        )

    def test_from_equal_to_to_and_above_it(self):
        for way in (0, 1):
            self.assertEqual(ask(size(way, 7, 7, 1)), [said(1)])
            self.assertEqual(ask(size(way, 8, 7, 1)), [said(-1)])
            self.assertEqual(ask(size(way, LARGEST, 0, 1)), [said(-1)])

    def test_to_at_the_last_place_and_beyond(self):
        for way in (0, 1):
            last = PLACES[way] - 1
            self.assertEqual(ask(size(way, 0, last, 1)), [said(1)])
            self.assertEqual(ask(size(way, last, last, 1)), [said(1)])
            self.assertEqual(ask(size(way, 0, last + 1, 1)), [said(-1)])
            self.assertEqual(ask(size(way, last + 1, last + 1, 1)), [said(-1)])
            self.assertEqual(ask(size(way, 0, LARGEST, 1)), [said(-1)])

    def test_a_row_may_lie_where_no_column_is(self):
        self.assertEqual(ask(size(0, 256, 256, 1), size(1, 256, 256, 1)), [said(1), said(-1)])

    def test_n_from_0_to_10000(self):
        for way in (0, 1):
            self.assertEqual(ask(size(way, 0, 0, 0)), [said(1)])
            self.assertEqual(ask(size(way, 0, 0, 10000)), [said(1)])
            self.assertEqual(ask(size(way, 0, 0, 10001)), [said(-1)])
            self.assertEqual(ask(size(way, 0, 0, LARGEST)), [said(-1)])

    def test_a_refused_size_is_not_counted(self):
        self.assertEqual(
            ask(size(0, 0, 0, 1), size(0, 1, 0, 1), size(0, 0, 4096, 1), size(0, 0, 0, 10001), size(0, 0, 0, 1)),
            [said(1), said(-1), said(-1), said(-1), said(2)],
        )

    def test_the_200th_is_taken_and_the_201st_refused(self):
        for way in (0, 1):
            told = ask(*[size(way, 0, 1, 5)] * 202)
            self.assertEqual(told, [said(count) for count in range(1, 201)] + [said(-5)] * 2)

    def test_a_full_way_leaves_room_in_the_other(self):
        for way in (0, 1):
            told = ask(*[size(way, 0, 1, 5)] * 201, size(1 - way, 0, 1, 5))
            self.assertEqual(told[-2:], [said(-5), said(1)])

    def test_of_both_refusals_the_first_is_answered(self):
        full = [size(0, 0, 1, 5)] * 200
        wrong = [size(0, 1, 0, 5), size(0, 0, 4096, 5), size(0, 0, 1, 10001)]
        self.assertEqual(ask(*full, *wrong)[200:], [said(-1)] * 3)

    def test_begins_counts_anew(self):
        told = ask(*[size(0, 0, 1, 5)] * 201, size(1, 0, 1, 5), BEGINS, size(0, 0, 1, 5), size(1, 0, 1, 5))
        self.assertEqual(told[200:], [said(-5), said(1), said(0), said(1), said(1)])
