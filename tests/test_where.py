"""Promise 8, as far as it speaks of where; where things stand on a page."""

import unittest

from tests.telling import (
    LARGEST, SQUARE, areas, ask, breaks, how, last_said, paper, said, scale, size, titles, where,
)

EVEN = [SQUARE, size(1, 0, 255, 20)]


class Where(unittest.TestCase):
    def test_as_at_first(self):
        told = ask(areas((0, 0, 99, 9)), where(0, 0), where(36, 6), where(37, 6), where(99, 9))
        self.assertEqual(told[1:], [
            said(1, 0, 5000, 5000),
            said(1, 0, 5000 + 6 * 6400, 5000 + 36 * 2000),
            said(1, 1, 5000 + 6 * 6400, 5000),
            said(1, 5, 5000 + 2 * 6400, 5000 + 25 * 2000),
        ])

    def test_no_areas(self):
        self.assertEqual(ask(where(0, 0), where(4095, 255)), [said(0), said(0)])

    def test_a_cell_in_no_area(self):
        calls = [areas((2, 2, 4, 4), (6, 6, 6, 6))]
        for row, column in ((1, 3), (5, 3), (3, 1), (3, 5), (6, 3), (3, 6), (1, 1), (5, 5), (7, 7), (4095, 255)):
            self.assertEqual(last_said(*calls, where(row, column)), [0], (row, column))

    def test_the_corners_of_an_area(self):
        calls = [*EVEN, areas((2, 3, 4, 6))]
        told = ask(*calls, where(2, 3), where(2, 6), where(4, 3), where(4, 6))
        self.assertEqual(told[3:], [said(1, 0, 0, 0), said(1, 0, 6000, 0), said(1, 0, 0, 4000), said(1, 0, 6000, 4000)])

    def test_a_cell_in_several_areas(self):
        calls = [*EVEN, areas((0, 0, 9, 9), (7, 8, 7, 8), (0, 0, 0, 0), (5, 5, 8, 10))]
        # Four pages, then one, one and, by their columns, two.
        self.assertEqual(last_said(*calls, where(7, 8)), [3, 3, 6000, 4000, 4, 0, 0, 6, 6000, 4000])
        self.assertEqual(last_said(*calls, where(0, 0)), [2, 0, 0, 0, 5, 0, 0])
        self.assertEqual(last_said(*calls, where(8, 10)), [1, 7, 0, 6000])

    def test_one_area_told_several_times(self):
        self.assertEqual(last_said(*EVEN, areas(*[(1, 1, 1, 1)] * 32), where(1, 1)),
                         [32] + [number for n in range(32) for number in (n, 0, 0)])

    def test_both_orders_of_pages(self):
        calls = [*EVEN, areas((9, 9, 9, 9), (0, 0, 6, 12))]
        # Two bands of rows by three of columns, from page 1 on.
        self.assertEqual(last_said(*calls, where(5, 4)), [1, 2, 8000, 0])
        self.assertEqual(last_said(*calls, where(0, 5)), [1, 3, 0, 0])
        self.assertEqual(last_said(*calls, where(6, 11)), [1, 6, 2000, 2000])
        self.assertEqual(last_said(*calls, how(1, 0, 0, 1), where(5, 4)), [1, 4, 8000, 0])
        self.assertEqual(last_said(*calls, how(1, 0, 0, 1), where(0, 5)), [1, 2, 0, 0])
        self.assertEqual(last_said(*calls, how(1, 0, 0, 1), where(6, 11)), [1, 6, 2000, 2000])

    def test_the_papers_edges(self):
        calls = [paper(500, 600, 11, 22, 33, 44), areas((0, 0, 1, 1))]
        self.assertEqual(last_said(*calls, where(0, 0)), [1, 0, 1100, 3300])
        self.assertEqual(last_said(*calls, where(1, 1)), [1, 0, 1100 + 6400, 3300 + 2000])

    def test_the_scale_does_not_touch_the_edges(self):
        calls = [areas((0, 0, 3, 3)), scale(37)]
        self.assertEqual(last_said(*calls, where(0, 0)), [1, 0, 5000, 5000])
        self.assertEqual(last_said(*calls, where(3, 2)), [1, 0, 5000 + 2 * 64 * 37, 5000 + 3 * 20 * 37])

    def test_sizes(self):
        calls = [SQUARE, size(1, 0, 0, 7), size(1, 1, 2, 0), size(0, 0, 1, 13), size(0, 1, 1, 5), areas((0, 0, 4, 3))]
        self.assertEqual(last_said(*calls, where(0, 1)), [1, 0, 700, 0])
        self.assertEqual(last_said(*calls, where(1, 2)), [1, 0, 700, 1300])
        self.assertEqual(last_said(*calls, where(2, 3)), [1, 0, 700, 1800])
        self.assertEqual(last_said(*calls, where(3, 3)), [1, 0, 700, 3800])

    def test_behind_what_comes_again(self):
        calls = [*EVEN, titles(0, 1, 2), titles(1, 0, 0), size(0, 1, 1, 3), areas((6, 4, 9, 8))]
        # Rows 6 to 8 behind 23 points, then row 9; columns 4 to 7 behind 20, then column 8.
        self.assertEqual(last_said(*calls, where(6, 4)), [1, 0, 2000, 2300])
        self.assertEqual(last_said(*calls, where(8, 7)), [1, 0, 8000, 6300])
        self.assertEqual(last_said(*calls, where(9, 8)), [1, 3, 2000, 2300])

    def test_a_cell_in_titles_stands_on_the_page_of_its_band(self):
        calls = [*EVEN, titles(0, 0, 1), titles(1, 0, 1), areas((0, 0, 12, 12))]
        self.assertEqual(last_said(*calls, where(0, 0)), [1, 0, 0, 0])
        self.assertEqual(last_said(*calls, where(1, 1)), [1, 0, 2000, 2000])
        self.assertEqual(last_said(*calls, where(5, 5))[2:], [4000, 4000])

    def test_a_cell_in_titles_and_in_no_area(self):
        calls = [*EVEN, titles(0, 0, 1), titles(1, 0, 1), areas((5, 5, 6, 6))]
        self.assertEqual(last_said(*calls, where(0, 0)), [0])
        self.assertEqual(last_said(*calls, where(0, 5)), [0])
        self.assertEqual(last_said(*calls, where(5, 0)), [0])
        self.assertEqual(last_said(*calls, where(5, 5)), [1, 0, 4000, 4000])

    def test_titles_within_an_area_that_begin_behind_a_band(self):
        calls = [*EVEN, titles(0, 4, 5), areas((0, 0, 9, 0))]
        # Rows 0 to 4; rows 5 to 8 behind row 4; row 9 behind rows 4 and 5.
        self.assertEqual(last_said(*calls, where(4, 0)), [1, 0, 0, 8000])
        self.assertEqual(last_said(*calls, where(5, 0)), [1, 1, 0, 2000])
        self.assertEqual(last_said(*calls, where(9, 0)), [1, 2, 0, 4000])

    def test_breaks(self):
        calls = [*EVEN, breaks(0, [1]), breaks(1, [2]), areas((0, 0, 2, 2))]
        self.assertEqual(last_said(*calls, where(2, 1)), [1, 1, 2000, 2000])
        self.assertEqual(last_said(*calls, where(0, 2)), [1, 2, 0, 0])

    def test_what_is_larger_than_a_page(self):
        calls = [*EVEN, size(0, 1, 1, 5000), areas((0, 0, 2, 0))]
        told = ask(*calls, where(1, 0), where(2, 0))
        self.assertEqual(told[-2:], [said(1, 1, 0, 0), said(1, 2, 0, 0)])

    def test_rows_4095_and_4096(self):
        calls = [areas((4095, 0, 4095, 255))]
        told = ask(*calls, where(4095, 0), where(4096, 0), where(LARGEST, 0))
        self.assertEqual(told[1:], [said(1, 0, 5000, 5000), said(-1), said(-1)])

    def test_columns_255_and_256(self):
        calls = [areas((0, 255, 300, 255))]
        told = ask(*calls, where(0, 255), where(0, 256), where(0, LARGEST), where(256, 255))
        self.assertEqual(told[1:], [said(1, 0, 5000, 5000), said(-1), said(-1), said(1, 6, 5000, 5000 + 34 * 2000)])

    def test_neither_row_nor_column(self):
        self.assertEqual(ask(where(4096, 256), where(LARGEST, LARGEST)), [said(-1), said(-1)])
