"""How rows and columns fall in bands, and what comes again: 'Bands, pages', and promises 1 to 5 where they show."""

import unittest

from tests.telling import (
    PAGES, SQUARE, all_pages, areas, ask, breaks, column_bands, last_said, paper, row_bands, said, scale, size, titles,
)

BANDS = (row_bands, column_bands)

# Rows and columns of 20: five of each have room on the square.
EVEN = [SQUARE, size(0, 0, 4095, 20), size(1, 0, 255, 20)]


def part_of(way, first, last):
    """An area of these rows and of column 0, or of these columns and of row 0."""
    return areas((first, 0, last, 0)) if way == 0 else areas((0, first, 0, last))


def again(*calls):
    """How many rows and how many columns come again on each page."""
    return [tuple(told[5:7]) for told in all_pages(*calls)]


class Bands(unittest.TestCase):
    def assert_bands(self, calls, first, last, expected):
        """Calls of a way, made for both ways, bring these bands of the places from first to last."""
        for way in (0, 1):
            told = BANDS[way](*EVEN, *[call(way) for call in calls], part_of(way, first, last))
            self.assertEqual(told, expected, way)


class Room(Bands):
    def test_as_at_first(self):
        told = ask(areas((0, 0, 99, 9)), PAGES)
        self.assertEqual(told[1], said(6, 100, 3, 2))
        self.assertEqual(row_bands(areas((0, 0, 99, 0))), [(0, 36), (37, 73), (74, 99)])
        self.assertEqual(column_bands(areas((0, 0, 0, 15))), [(0, 6), (7, 13), (14, 15)])

    def test_one_place(self):
        self.assert_bands([], 9, 9, [(9, 9)])

    def test_a_band_begins_where_the_one_before_has_ended(self):
        self.assert_bands([], 3, 15, [(3, 7), (8, 12), (13, 15)])
        self.assert_bands([], 3, 12, [(3, 7), (8, 12)])

    def test_the_last_places(self):
        self.assertEqual(row_bands(*EVEN, part_of(0, 4089, 4095)), [(4089, 4093), (4094, 4095)])
        self.assertEqual(column_bands(*EVEN, part_of(1, 249, 255)), [(249, 253), (254, 255)])

    def test_just_enough_room(self):
        for way in (0, 1):
            fair = [*EVEN, size(way, 0, 0, 60), size(way, 1, 1, 40), part_of(way, 0, 2)]
            self.assertEqual(BANDS[way](*fair), [(0, 1), (2, 2)])
            self.assertEqual(BANDS[way](*fair, size(way, 1, 1, 41)), [(0, 0), (1, 2)])

    def test_one_hundredth_too_little(self):
        # 137 points by the scale 73 are 10001 hundredths, 125 by 80 are 10000.
        for way in (0, 1):
            fair = [*EVEN, size(way, 0, 0, 100), part_of(way, 0, 1)]
            self.assertEqual(BANDS[way](*fair, size(way, 1, 1, 37), scale(73)), [(0, 0), (1, 1)])
            self.assertEqual(BANDS[way](*fair, size(way, 1, 1, 36), scale(73)), [(0, 1)])
            self.assertEqual(BANDS[way](*fair, size(way, 1, 1, 25), scale(80)), [(0, 1)])

    def test_each_way_has_its_own_space(self):
        fair = [paper(130, 170, 20, 30, 40, 30), *EVEN[1:]]
        self.assertEqual(column_bands(*fair, part_of(1, 0, 5)), [(0, 3), (4, 5)])
        self.assertEqual(row_bands(*fair, part_of(0, 0, 5)), [(0, 4), (5, 5)])

    def test_the_smallest_and_the_largest_scale(self):
        self.assert_bands([lambda way: scale(10)], 0, 59, [(0, 49), (50, 59)])
        self.assert_bands([lambda way: scale(400)], 0, 2, [(0, 0), (1, 1), (2, 2)])


class Sizes(Bands):
    def test_a_place_larger_than_a_page_has_a_band_by_itself(self):
        self.assert_bands([lambda way: size(way, 2, 2, 101)], 0, 4, [(0, 1), (2, 2), (3, 4)])
        self.assert_bands([lambda way: size(way, 0, 0, 10000)], 0, 4, [(0, 0), (1, 4)])
        self.assert_bands([lambda way: size(way, 4, 4, 10000)], 0, 4, [(0, 3), (4, 4)])
        self.assert_bands([lambda way: size(way, 1, 2, 300)], 0, 3, [(0, 0), (1, 1), (2, 2), (3, 3)])

    def test_size_0_is_on_a_page_all_the_same(self):
        self.assert_bands([lambda way: size(way, 5, 7, 0)], 0, 8, [(0, 7), (8, 8)])
        self.assert_bands([lambda way: size(way, 0, 255, 0)], 0, 255, [(0, 255)])

    def test_size_0_behind_one_that_is_larger_than_a_page(self):
        told = [lambda way: size(way, 0, 0, 101), lambda way: size(way, 1, 2, 0)]
        self.assert_bands(told, 0, 3, [(0, 0), (1, 3)])

    def test_the_newest_size_counts(self):
        told = [
            lambda way: size(way, 0, 9, 100),
            lambda way: size(way, 2, 8, 50),
            lambda way: size(way, 4, 4, 1),
            lambda way: size(way, 3, 5, 25),
        ]
        self.assert_bands(told, 0, 9, [(0, 0), (1, 1), (2, 4), (5, 6), (7, 8), (9, 9)])

    def test_a_way_leaves_the_other_alone(self):
        self.assertEqual(row_bands(*EVEN, size(1, 0, 255, 50), part_of(0, 0, 5)), [(0, 4), (5, 5)])
        self.assertEqual(column_bands(*EVEN, size(0, 0, 255, 50), part_of(1, 0, 5)), [(0, 4), (5, 5)])


class Breaks(Bands):
    def test_at_the_areas_first_place(self):
        self.assert_bands([lambda way: breaks(way, [3])], 3, 12, [(3, 7), (8, 12)])

    def test_within(self):
        self.assert_bands([lambda way: breaks(way, [5])], 3, 12, [(3, 4), (5, 9), (10, 12)])
        self.assert_bands([lambda way: breaks(way, [4])], 3, 12, [(3, 3), (4, 8), (9, 12)])

    def test_at_the_last_place(self):
        self.assert_bands([lambda way: breaks(way, [12])], 3, 12, [(3, 7), (8, 11), (12, 12)])

    def test_ahead_and_beyond(self):
        self.assert_bands([lambda way: breaks(way, [0, 2, 13, 255])], 3, 12, [(3, 7), (8, 12)])

    def test_where_a_band_begins_anyhow(self):
        self.assert_bands([lambda way: breaks(way, [8])], 3, 12, [(3, 7), (8, 12)])

    def test_several_in_any_order(self):
        self.assert_bands([lambda way: breaks(way, [9, 6, 7, 6])], 3, 12, [(3, 5), (6, 6), (7, 8), (9, 12)])

    def test_at_a_place_of_size_0(self):
        told = [lambda way: size(way, 4, 4, 0), lambda way: breaks(way, [4])]
        self.assert_bands(told, 3, 6, [(3, 3), (4, 6)])

    def test_these_are_instead_of_those_before(self):
        self.assert_bands([lambda way: breaks(way, [4]), lambda way: breaks(way, [6])], 3, 7, [(3, 5), (6, 7)])
        self.assert_bands([lambda way: breaks(way, [4]), lambda way: breaks(way, [])], 3, 7, [(3, 7)])

    def test_a_way_leaves_the_other_alone(self):
        self.assertEqual(row_bands(*EVEN, breaks(1, [1]), part_of(0, 0, 4)), [(0, 4)])
        self.assertEqual(column_bands(*EVEN, breaks(0, [1]), part_of(1, 0, 4)), [(0, 4)])

    def test_500_breaks(self):
        told = row_bands(breaks(0, range(0, 1000, 2)), part_of(0, 0, 100))
        self.assertEqual(told, [(row, row + 1) for row in range(0, 100, 2)] + [(100, 100)])


class Titles(Bands):
    def assert_titles(self, first, last, area, expected, counts):
        """Titles of a way, told for both ways, bring these bands, and so many places that come again."""
        self.assert_bands([lambda way: titles(way, first, last)], area[0], area[1], expected)
        for way in (0, 1):
            told = again(*EVEN, titles(way, first, last), part_of(way, area[0], area[1]))
            self.assertEqual(told, [(count, 0) if way == 0 else (0, count) for count in counts])

    def test_ahead_of_the_area(self):
        self.assert_titles(0, 1, (10, 17), [(10, 12), (13, 15), (16, 17)], [2, 2, 2])

    def test_just_ahead_of_the_area(self):
        self.assert_titles(8, 9, (10, 13), [(10, 12), (13, 13)], [2, 2])

    def test_at_the_areas_beginning(self):
        self.assert_titles(0, 1, (0, 9), [(0, 4), (5, 7), (8, 9)], [0, 2, 2])

    def test_within_so_that_what_comes_again_grows(self):
        bands = [(0, 4), (5, 8), (9, 9), (10, 10), (11, 11)]
        self.assert_titles(4, 9, (0, 11), bands, [0, 1, 5, 6, 6])

    def test_the_area_begins_within_the_titles(self):
        self.assert_titles(2, 5, (3, 8), [(3, 6), (7, 7), (8, 8)], [1, 4, 4])

    def test_behind_the_area(self):
        self.assert_titles(12, 13, (0, 9), [(0, 4), (5, 9)], [0, 0])

    def test_a_place_just_has_room_beside_what_comes_again(self):
        self.assert_titles(0, 3, (10, 11), [(10, 10), (11, 11)], [4, 4])

    def test_what_comes_again_leaves_no_room(self):
        self.assert_titles(0, 5, (10, 12), [(10, 10), (11, 11), (12, 12)], [6, 6, 6])

    def test_titles_of_size_0_are_counted_and_take_no_room(self):
        for way in (0, 1):
            fair = [*EVEN, size(way, 0, 2, 0), titles(way, 0, 3), part_of(way, 10, 14)]
            self.assertEqual(BANDS[way](*fair), [(10, 13), (14, 14)])
            self.assertEqual(again(*fair), [(4, 0) if way == 0 else (0, 4)] * 2)

    def test_a_break_at_titles(self):
        for way in (0, 1):
            fair = [*EVEN, breaks(way, [3]), titles(way, 2, 4), part_of(way, 0, 5)]
            self.assertEqual(BANDS[way](*fair), [(0, 2), (3, 5)])

    def test_the_newest_titles_count(self):
        for way in (0, 1):
            fair = [*EVEN, part_of(way, 10, 14), titles(way, 0, 3)]
            self.assertEqual(BANDS[way](*fair, titles(way, 0, 0)), [(10, 13), (14, 14)])
            self.assertEqual(BANDS[way](*fair, titles(way)), [(10, 14)])

    def test_titles_of_both_ways(self):
        fair = [*EVEN, titles(0, 0, 1), titles(1, 0, 2), areas((5, 5, 7, 8))]
        self.assertEqual(again(*fair), [(2, 3), (2, 3)])
        self.assertEqual(last_said(*fair, PAGES), [2, 100, 1, 2])

    def test_the_last_places_as_titles(self):
        self.assertEqual(again(*EVEN, titles(0, 0, 4095), areas((4095, 0, 4095, 0))), [(4095, 0)])
        self.assertEqual(again(*EVEN, titles(1, 0, 255), areas((0, 255, 0, 255))), [(0, 255)])
