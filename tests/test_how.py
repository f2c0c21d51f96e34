"""Promise 6: how, and where on the paper things stand by it."""

import unittest

from tests.telling import (
    BEGINS, PAGES, SQUARE, all_pages, areas, ask, how, heads, last_said, paper, said, said_texts, scale, size, texts,
    titles, where,
)

ACROSS = how(0, 1, 0, 1)
DOWN = how(0, 0, 1, 1)
NEITHER = how(0, 0, 0, 1)

# A space of 100 across, from 30 on, and of 200 down, from 70 on.
OBLONG = [paper(170, 300, 30, 40, 70, 30), areas((0, 0, 0, 0))]


def size_of_cell(width, height):
    """Sizes of the column and the row that stand by themselves on the page."""
    return [size(1, 0, 0, width), size(0, 0, 0, height)]


def corner(*calls):
    """How far from the left and from the upper edge the first cell stands."""
    return tuple(last_said(*calls, where(0, 0))[2:])


class Middle(unittest.TestCase):
    def assert_shift(self, calls, width, height, expected):
        """The corner lies so many hundredths, across and down, beyond where the space begins."""
        told = corner(*OBLONG, *size_of_cell(width, height), *calls)
        self.assertEqual((told[0] - 3000, told[1] - 7000), expected)

    def test_as_at_first(self):
        self.assert_shift([], 60, 50, (0, 0))

    def test_across(self):
        self.assert_shift([ACROSS], 60, 50, (2000, 0))

    def test_down(self):
        self.assert_shift([DOWN], 60, 50, (0, 7500))

    def test_both(self):
        self.assert_shift([how(0, 1, 1, 1)], 60, 50, (2000, 7500))

    def test_the_newest_counts(self):
        self.assert_shift([ACROSS, DOWN], 60, 50, (0, 7500))
        self.assert_shift([how(0, 1, 1, 1), NEITHER], 60, 50, (0, 0))

    def test_over_shifts_nothing(self):
        self.assert_shift([how(1, 0, 0, 1)], 60, 50, (0, 0))

    def test_all_just_has_room(self):
        self.assert_shift([how(0, 1, 1, 1)], 100, 200, (0, 0))
        self.assert_shift([how(0, 1, 1, 1)], 99, 199, (50, 50))

    def test_not_all_has_room(self):
        self.assert_shift([how(0, 1, 1, 1)], 101, 201, (0, 0))
        self.assert_shift([how(0, 1, 1, 1)], 9000, 50, (0, 7500))
        self.assert_shift([how(0, 1, 1, 1)], 60, 9000, (2000, 0))

    def test_an_odd_half_is_rounded_down(self):
        # 33 hundredths of 10000 leave 9967, of 20000 leave 19967.
        self.assert_shift([how(0, 1, 1, 1), scale(33)], 1, 1, (4983, 9983))
        # 9999 hundredths leave 1 across, 19899 leave 101 down.
        self.assert_shift([how(0, 1, 1, 1), scale(99)], 101, 201, (0, 50))

    def test_one_hundredth_beyond_the_room(self):
        # 137 points by the scale 73 are 10001 hundredths; down there is room for them.
        self.assert_shift([how(0, 1, 1, 1), scale(73)], 137, 137, (0, 4999))

    def test_nothing_takes_room(self):
        self.assert_shift([how(0, 1, 1, 1)], 0, 0, (5000, 10000))

    def test_what_comes_again_is_a_part_of_all(self):
        calls = [SQUARE, titles(0, 0, 0), titles(1, 0, 1), areas((3, 5, 3, 5))]
        calls += [*size_of_cell(10, 30), size(1, 1, 1, 20)]
        # Across 10 + 20 + 64 leave 6 of 100, down 30 + 20 leave 50.
        self.assertEqual(last_said(*calls, how(0, 1, 1, 1), where(3, 5)), [1, 0, 3000 + 300, 3000 + 2500])
        self.assertEqual(last_said(*calls, NEITHER, where(3, 5)), [1, 0, 3000, 3000])

    def test_what_comes_again_may_take_the_room(self):
        calls = [SQUARE, titles(0, 0, 0), *size_of_cell(10, 90), areas((3, 0, 3, 0))]
        self.assertEqual(last_said(*calls, how(0, 1, 1, 1), where(3, 0)), [1, 0, 4500, 9000])

    def test_each_page_by_itself(self):
        calls = [SQUARE, size(1, 0, 255, 20), areas((0, 0, 6, 0)), DOWN]
        told = ask(*calls, where(0, 0), where(5, 0), where(6, 0))
        self.assertEqual(told[-3:], [said(1, 0, 0, 0), said(1, 1, 0, 3000), said(1, 1, 0, 5000)])


class FirstNumber(unittest.TestCase):
    def assert_number(self, calls, number):
        told = ask(areas((0, 0, 0, 0)), heads("&P", ""), *calls, texts(0))
        self.assertEqual(told[-1], said_texts("", number, "", "", "", ""))

    def test_as_at_first(self):
        self.assert_number([], "1")

    def test_the_newest_counts(self):
        self.assert_number([how(0, 0, 0, 12), how(1, 1, 1, 345)], "345")

    def test_at_the_edges(self):
        self.assertEqual(ask(how(0, 0, 0, 1000000), how(0, 0, 0, -1000000)), [said(0)] * 2)
        self.assert_number([how(0, 0, 0, 1000000)], "1000000")
        self.assert_number([how(0, 0, 0, -1000000)], "-1000000")
        self.assert_number([how(0, 0, 0, 0)], "0")

    def test_beyond(self):
        for first in (1000001, -1000001, 2147483647, -2147483648):
            self.assertEqual(ask(how(0, 0, 0, first)), [said(-1)])
            self.assertEqual(ask(how(1, 1, 1, first)), [said(-1)])
            self.assert_number([how(0, 0, 0, 7), how(0, 0, 0, first)], "7")

    def test_a_refusal_changes_nothing(self):
        calls = [*OBLONG, *size_of_cell(60, 50), areas((0, 0, 20, 2)), heads("&P", "")]
        for kept, told in ((how(1, 1, 1, 5), how(0, 0, 0, 1000001)), (NEITHER, how(1, 1, 1, -1000001))):
            once = ask(*calls, kept, where(0, 0), where(1, 2), texts(1), PAGES)
            again = ask(*calls, kept, told, where(0, 0), where(1, 2), texts(1), PAGES)
            self.assertEqual(again[-5], said(-1))
            self.assertEqual(again[-4:], once[-4:])

    def test_begins_takes_all_back(self):
        changed = [how(1, 1, 1, 5), BEGINS]
        self.assertEqual(corner(*changed, *OBLONG), (3000, 7000))
        self.assert_number_behind_begins(changed)
        told = areas((0, 0, 99, 9))
        self.assertEqual(all_pages(*changed, told), all_pages(told))

    def assert_number_behind_begins(self, changed):
        told = ask(*changed, areas((0, 0, 0, 0)), heads("&P", ""), texts(0))
        self.assertEqual(told[-1], said_texts("", "1", "", "", "", ""))
