"""Promise 8, as far as it speaks of page; pages, and the order of pages."""

import unittest

from tests.telling import (
    LARGEST, PAGES, SQUARE, all_pages, areas, ask, breaks, how, last_said, page, said, scale, size, titles,
)

# Two bands of rows, 0 to 4 and 5 to 6, by three bands of columns, 0, 1 to 4 and 5 to 5.
GRID = [SQUARE, size(1, 0, 255, 20), size(1, 0, 0, 99), size(1, 5, 5, 30), areas((0, 0, 6, 5))]

DOWN_FIRST = how(0, 0, 0, 1)
BESIDE_FIRST = how(1, 0, 0, 1)


def spans(*calls):
    """Each page's area, first and last row, first and last column."""
    return [tuple(told[:5]) for told in all_pages(*calls)]


class Pages(unittest.TestCase):
    def test_no_areas(self):
        self.assertEqual(ask(PAGES), [said(0, 100)])
        self.assertEqual(ask(scale(55), PAGES), [said(0), said(0, 55)])

    def test_one_area(self):
        self.assertEqual(last_said(*GRID, PAGES), [6, 100, 2, 3])

    def test_several_areas(self):
        told = areas((0, 0, 6, 5), (3, 3, 3, 3), (0, 0, 9, 0), (0, 0, 6, 5))
        self.assertEqual(last_said(*GRID, told, PAGES), [6 + 1 + 2 + 6, 100, 2, 3, 1, 1, 2, 1, 2, 3])

    def test_32_areas(self):
        self.assertEqual(last_said(areas(*[(0, 0, 9, 1)] * 32), PAGES), [32, 100] + [1, 1] * 32)

    def test_the_scale(self):
        self.assertEqual(last_said(*GRID, scale(50), PAGES), [2, 50, 1, 2])
        self.assertEqual(last_said(*GRID, scale(400), PAGES), [42, 400, 7, 6])

    def test_a_large_area(self):
        told = [size(0, 0, 4095, 10000), size(1, 0, 255, 10000), areas((2852, 0, 4095, 255))]
        self.assertEqual(last_said(*told, PAGES), [1244 * 256, 100, 1244, 256])
        last = [0, 0, 4095, 4095, 255, 255, 0, 0, 1000000, 1000000]
        self.assertEqual(ask(*told, page(1244 * 256 - 1), page(1244 * 256))[-2:], [said(*last), said(-6)])


class Order(unittest.TestCase):
    def test_below_one_another_first(self):
        expected = [
            (0, 0, 4, 0, 0), (0, 5, 6, 0, 0), (0, 0, 4, 1, 4), (0, 5, 6, 1, 4), (0, 0, 4, 5, 5), (0, 5, 6, 5, 5)
        ]
        self.assertEqual(spans(*GRID), expected)
        self.assertEqual(spans(*GRID, DOWN_FIRST), expected)
        self.assertEqual(spans(*GRID, BESIDE_FIRST, DOWN_FIRST), expected)

    def test_beside_one_another_first(self):
        expected = [
            (0, 0, 4, 0, 0), (0, 0, 4, 1, 4), (0, 0, 4, 5, 5), (0, 5, 6, 0, 0), (0, 5, 6, 1, 4), (0, 5, 6, 5, 5)
        ]
        self.assertEqual(spans(*GRID, BESIDE_FIRST), expected)

    def test_areas_one_behind_another(self):
        told = areas((0, 0, 6, 1), (3, 3, 3, 3), (5, 0, 5, 1))
        first = [(0, 0, 4, 0, 0), (0, 5, 6, 0, 0), (0, 0, 4, 1, 1), (0, 5, 6, 1, 1)]
        behind = [(1, 3, 3, 3, 3), (2, 5, 5, 0, 0), (2, 5, 5, 1, 1)]
        self.assertEqual(spans(*GRID, told), first + behind)
        first = [(0, 0, 4, 0, 0), (0, 0, 4, 1, 1), (0, 5, 6, 0, 0), (0, 5, 6, 1, 1)]
        self.assertEqual(spans(*GRID, told, BESIDE_FIRST), first + behind)

    def test_areas_that_overlap_each_have_all_their_cells(self):
        told = areas((0, 0, 5, 0), (2, 0, 4, 0), (0, 0, 5, 0))
        expected = [(0, 0, 4, 0, 0), (0, 5, 5, 0, 0), (1, 2, 4, 0, 0), (2, 0, 4, 0, 0), (2, 5, 5, 0, 0)]
        self.assertEqual(spans(*GRID, told), expected)

    def test_areas_in_the_order_in_which_they_are_told(self):
        self.assertEqual(spans(areas((9, 9, 9, 9), (0, 0, 0, 0))), [(0, 9, 9, 9, 9), (1, 0, 0, 0, 0)])


class Page(unittest.TestCase):
    def test_as_at_first(self):
        told = ask(areas((0, 0, 99, 9)), page(0), page(5))
        self.assertEqual(told[1:], [
            said(0, 0, 0, 36, 0, 6, 0, 0, 44800, 74000), said(0, 0, 74, 99, 7, 9, 0, 0, 19200, 52000)
        ])

    def test_the_first_number_is_not_the_pages_place(self):
        told = ask(areas((0, 0, 0, 0)), how(0, 0, 0, 7), page(0), page(7))
        self.assertEqual(told[2:], [said(0, 0, 0, 0, 0, 0, 0, 0, 6400, 2000), said(-6)])

    def test_how_large_all_is_with_what_comes_again(self):
        calls = [*GRID, titles(0, 1, 1), titles(1, 0, 1), size(0, 1, 1, 7), scale(50), areas((6, 3, 7, 5))]
        wide = (99 + 20 + 20 + 20 + 30) * 50
        tall = (7 + 20 + 20) * 50
        self.assertEqual(last_said(*calls, page(0)), [0, 0, 6, 7, 3, 5, 1, 2, wide, tall])

    def test_what_is_larger_than_a_page_is_told_with_its_size(self):
        calls = [SQUARE, size(0, 3, 3, 500), size(1, 2, 2, 300), areas((3, 2, 3, 2)), titles(0, 0, 1), titles(1, 1, 1)]
        self.assertEqual(last_said(*calls, page(0)), [0, 0, 3, 3, 2, 2, 2, 1, 36400, 54000])

    def test_size_0(self):
        calls = [size(0, 0, 9, 0), size(1, 0, 9, 0), areas((0, 0, 9, 9))]
        self.assertEqual(last_said(*calls, page(0)), [0, 0, 0, 9, 0, 9, 0, 0, 0, 0])

    def test_the_last_page_and_the_one_behind_it(self):
        told = ask(*GRID, page(5), page(6), page(LARGEST))
        self.assertEqual(told[-3:], [said(0, 0, 5, 6, 5, 5, 0, 0, 3000, 4000), said(-6), said(-6)])

    def test_the_last_page_of_several_areas(self):
        told = ask(*GRID, areas((0, 0, 6, 5), (0, 0, 0, 0)), page(5), page(6), page(7))
        self.assertEqual(told[-3][2], 0)
        self.assertEqual(told[-2:], [said(0, 1, 0, 0, 0, 0, 0, 0, 9900, 2000), said(-6)])

    def test_no_areas(self):
        self.assertEqual(ask(page(0), page(1)), [said(-6), said(-6)])
        self.assertEqual(ask(areas((0, 0, 0, 0)), areas(), page(0))[-1], said(-6))

    def test_a_refused_page_changes_nothing(self):
        told = ask(*GRID, PAGES, page(6), PAGES, page(0))
        self.assertEqual(told[-4], told[-2])
        self.assertEqual(told[-1], said(0, 0, 0, 4, 0, 0, 0, 0, 9900, 10000))

    def test_a_break_in_both_ways(self):
        self.assertEqual(
            spans(areas((0, 0, 1, 1)), breaks(0, [1]), breaks(1, [1])),
            [(0, 0, 0, 0, 0), (0, 1, 1, 0, 0), (0, 0, 0, 1, 1), (0, 1, 1, 1, 1)],
        )
