"""Promise 5: fit, and that of scale and fit the newer counts."""

import unittest

from tests.telling import (
    BEGINS, LARGEST, PAGES, SQUARE, areas, ask, breaks, fit, how, last_said, page, paper, said, scale, size, titles,
    where,
)

# Ten rows of 20 and ten columns of 40.
TEN = [SQUARE, size(1, 0, 255, 40), areas((0, 0, 9, 9))]


def fitted(*calls):
    """The scale that is answered behind these calls."""
    return last_said(*calls, PAGES)[1]


class Fit(unittest.TestCase):
    def test_from_0_to_1000(self):
        self.assertEqual(ask(fit(0, 0), fit(1, 1), fit(1000, 1000)), [said(0)] * 3)
        self.assertEqual(ask(fit(1001, 0), fit(0, 1001), fit(1001, 1001)), [said(-1)] * 3)
        self.assertEqual(ask(fit(LARGEST, 1), fit(1, LARGEST)), [said(-1)] * 2)

    def test_any_number_in_both_directions(self):
        self.assertEqual(last_said(*TEN, fit(0, 0), PAGES), [10, 100, 2, 5])

    def test_any_number_of_columns(self):
        self.assertEqual(last_said(*TEN, fit(0, 1), PAGES), [2, 50, 1, 2])

    def test_any_number_of_rows(self):
        self.assertEqual(last_said(*TEN, fit(1, 0), PAGES), [1, 25, 1, 1])

    def test_both_directions(self):
        self.assertEqual(last_said(*TEN, fit(2, 1), PAGES), [2, 50, 1, 2])
        self.assertEqual(last_said(*TEN, fit(3, 1), PAGES), [2, 50, 1, 2])
        self.assertEqual(last_said(*TEN, fit(3, 2), PAGES), [6, 62, 2, 3])

    def test_wide_is_of_columns_and_tall_of_rows(self):
        self.assertEqual(fitted(*TEN, fit(1, 2)), 25)
        self.assertEqual(fitted(*TEN, fit(2, 1)), 50)

    def test_never_larger_than_100(self):
        self.assertEqual(fitted(*TEN, scale(400), fit(9, 9)), 100)
        self.assertEqual(fitted(areas((0, 0, 0, 0)), fit(1, 1)), 100)

    def test_the_greatest_that_fits(self):
        # 103 points have room by 97 (9991 hundredths), and not by 98 (10094).
        for told, numbers in ((size(0, 1, 1, 3), fit(0, 1)), (size(1, 1, 1, 3), fit(1, 0))):
            calls = [SQUARE, size(0, 0, 0, 100), size(1, 0, 0, 100), told, areas((0, 0, 1, 1)), numbers]
            self.assertEqual(fitted(*calls), 97)

    def test_99_fits(self):
        calls = [SQUARE, size(0, 0, 0, 100), size(0, 1, 1, 1), areas((0, 0, 1, 0)), fit(1, 1)]
        self.assertEqual(fitted(*calls), 99)

    def test_10_fits(self):
        self.assertEqual(last_said(SQUARE, areas((0, 0, 49, 0)), fit(1, 1), PAGES), [1, 10, 1, 1])

    def test_11_fits(self):
        self.assertEqual(last_said(SQUARE, size(0, 0, 0, 900), areas((0, 0, 0, 0), (1, 0, 45, 0)), fit(0, 1), PAGES),
                         [2, 11, 1, 1, 1, 1])

    def test_none_down_to_10(self):
        self.assertEqual(last_said(SQUARE, areas((0, 0, 50, 0)), fit(1, 1), PAGES), [2, 10, 2, 1])
        self.assertEqual(last_said(areas((0, 0, 9, 0)), breaks(0, [3, 6]), fit(0, 2), PAGES), [3, 10, 3, 1])
        self.assertEqual(last_said(areas((0, 0, 0, 9)), breaks(1, [3, 6]), fit(2, 0), PAGES), [3, 10, 1, 3])

    def test_as_many_breaks_as_bands_are_wanted(self):
        self.assertEqual(last_said(areas((0, 0, 9, 0)), breaks(0, [3, 6]), fit(0, 3), PAGES), [3, 100, 3, 1])

    def test_one_that_is_larger_than_a_page_fits(self):
        calls = [SQUARE, size(0, 0, 0, 9000), areas((0, 0, 0, 0)), fit(1, 1)]
        self.assertEqual(last_said(*calls, PAGES), [1, 100, 1, 1])

    def test_the_area_that_needs_most_counts(self):
        short = (0, 0, 4, 0)
        long = (0, 0, 9, 0)
        for told in ([short, long], [long, short], [short, long, short]):
            self.assertEqual(fitted(SQUARE, areas(*told), fit(0, 1)), 50)

    def test_each_area_has_so_many_bands_not_all_together(self):
        self.assertEqual(last_said(SQUARE, areas((0, 0, 4, 0), (5, 0, 9, 0)), fit(1, 1), PAGES), [2, 100, 1, 1, 1, 1])

    def test_no_areas(self):
        self.assertEqual(ask(fit(1, 1), PAGES), [said(0), said(0, 100)])
        self.assertEqual(ask(scale(30), fit(1, 1), PAGES), [said(0), said(0), said(0, 100)])

    def test_1000_bands(self):
        self.assertEqual(last_said(areas((0, 0, 1099, 0)), breaks(0, range(100, 600)), fit(0, 1000), PAGES)[1], 100)
        calls = [SQUARE, size(0, 0, 1099, 90), areas((0, 0, 1099, 0))]
        self.assertEqual(last_said(*calls, fit(0, 1000), PAGES), [550, 55, 550, 1])

    def test_titles_take_room(self):
        calls = [SQUARE, titles(0, 0, 4), areas((5, 0, 9, 0))]
        self.assertEqual(last_said(*calls, fit(1, 1), PAGES), [1, 50, 1, 1])

    def test_every_call_goes_by_the_scale(self):
        told = ask(*TEN, fit(1, 1), page(0), where(9, 9))
        self.assertEqual(told[-2:], [said(0, 0, 0, 9, 0, 9, 0, 0, 10000, 5000), said(1, 0, 9000, 4500)])

    def test_a_smaller_scale_never_takes_more_bands(self):
        # So no scale that fits has one below it that does not: what comes again grows no faster than a band begins.
        calls = [SQUARE, areas((1, 0, 40, 0)), titles(0, 3, 9), breaks(0, [8, 20])]
        calls += [size(0, 2, 2, 33), size(0, 5, 6, 17), size(0, 11, 11, 300)]
        told = ask(*calls, *[call for p in range(100, 9, -1) for call in (scale(p), PAGES)])
        counts = [answer[3] for answer in told[len(calls) + 1::2]]
        self.assertEqual(len(counts), 91)
        self.assertEqual(counts, sorted(counts, reverse=True))
        for most in range(1, 25):
            fair = [p for p, count in zip(range(100, 9, -1), counts) if count <= most]
            self.assertEqual(fitted(*calls, fit(0, most)), max(fair, default=10))


class TheNewer(unittest.TestCase):
    def test_scale_behind_fit(self):
        self.assertEqual(fitted(*TEN, fit(1, 1), scale(80)), 80)
        self.assertEqual(fitted(*TEN, fit(1, 1), scale(300)), 300)

    def test_fit_behind_scale(self):
        self.assertEqual(fitted(*TEN, scale(80), fit(0, 1)), 50)
        self.assertEqual(fitted(*TEN, scale(10), fit(0, 1)), 50)

    def test_fit_behind_fit(self):
        self.assertEqual(fitted(*TEN, fit(1, 1), fit(0, 1)), 50)
        self.assertEqual(fitted(*TEN, fit(1, 1), fit(0, 0)), 100)

    def test_there_and_back(self):
        told = ask(*TEN, fit(1, 1), PAGES, scale(70), PAGES, fit(0, 1), PAGES, scale(90), PAGES)
        self.assertEqual([answer[2] for answer in told[4::2]], [25, 70, 50, 90])

    def test_a_refused_scale_leaves_fit(self):
        self.assertEqual(fitted(*TEN, fit(0, 1), scale(9)), 50)
        self.assertEqual(fitted(*TEN, fit(0, 1), scale(401)), 50)

    def test_a_refused_fit_leaves_scale(self):
        self.assertEqual(fitted(*TEN, scale(80), fit(1001, 1)), 80)
        self.assertEqual(fitted(*TEN, scale(80), fit(1, 1001)), 80)

    def test_a_refused_fit_leaves_fit(self):
        self.assertEqual(fitted(*TEN, fit(0, 1), fit(1, 1001)), 50)
        self.assertEqual(fitted(*TEN, fit(0, 1), fit(1001, 0)), 50)

    def test_begins_takes_both_back(self):
        self.assertEqual(ask(fit(1, 1), BEGINS, areas((0, 0, 99, 0)), PAGES)[-1], said(3, 100, 3, 1))
        self.assertEqual(ask(scale(50), BEGINS, PAGES)[-1], said(0, 100))

    def test_fit_is_reckoned_anew_behind_each_change(self):
        changes = [size(0, 0, 9, 40), paper(100, 50, 0, 0, 0, 0), titles(0, 0, 9), areas((10, 0, 19, 0)),
                   breaks(0, [15]), titles(0), breaks(0, []), how(1, 1, 1, 5), areas()]
        calls = [SQUARE, areas((0, 0, 9, 0)), fit(0, 1), PAGES]
        for change in changes:
            calls.extend([change, PAGES])
        told = [answer[2] for answer in ask(*calls)[3::2]]
        self.assertEqual(told, [50, 25, 12, 12, 10, 10, 10, 25, 25, 100])
