"""Calls one behind another on one sheet: each change shows, refusals change nothing, and begins takes all back."""

import unittest

from tests.telling import (
    BEGINS, LARGEST, PAGES, areas, ask, breaks, fit, heads, how, page, paper, said, scale, size, texts, titles, where,
)

# Two areas, so that what each setting does shows in some answer.
AREAS = areas((0, 0, 99, 9), (50, 3, 60, 5))

LOOK = [
    PAGES, page(0), page(1), page(2), page(3), where(0, 0), where(9, 1), where(40, 8), where(55, 4), texts(0), texts(2),
]

# Settings of which none is as at first.
CHANGED = [
    size(0, 3, 5, 7), size(1, 3, 5, 7), titles(0, 1, 2), titles(1, 1, 2), breaks(0, [6, 4]), breaks(1, [6, 4]),
    paper(600, 800, 10, 20, 30, 40), AREAS, scale(80), how(1, 1, 1, 9), heads("&P/&N", "&A"),
]

REFUSED = [
    (size(0, 0, 4096, 5), -1), (size(1, 0, 256, 5), -1), (size(0, 2, 1, 5), -1), (size(1, 2, 1, 5), -1),
    (size(0, 0, 9, 10001), -1), (size(1, 0, 9, 10001), -1),
    (paper(500, 70, 10, 20, 30, 40), -1), (paper(30, 700, 10, 20, 30, 40), -1), (paper(100001, 70, 0, 0, 0, 0), -1),
    (areas((1, 1, 1, 1), (0, 0, 4096, 0)), -1), (areas((1, 1, 1, 1), (0, 0, 0, 256)), -1), (areas((2, 1, 1, 1)), -1),
    (areas(*[(1, 1, 1, 1)] * 33), -5),
    (titles(0, 3, 4096), -1), (titles(1, 3, 256), -1), (titles(0, 4, 3), -1), (titles(1, 4, 3), -1),
    (breaks(0, [9, 4096]), -1), (breaks(1, [7, 256]), -1), (breaks(0, [9] * 501), -5), (breaks(1, [7] * 501), -5),
    (scale(9), -1), (scale(401), -1), (fit(1001, 1), -1), (fit(1, 1001), -1),
    (how(0, 0, 0, 1000001), -1), (how(0, 0, 0, -1000001), -1), (heads("new", "&x"), -3), (heads("&x", "new"), -3),
    (page(LARGEST), -6), (texts(LARGEST), -6), (where(4096, 0), -1), (where(0, 256), -1),
]

# Other settings than those of CHANGED, each by itself.
CHANGES = [
    size(0, 0, 9, 30), size(1, 0, 9, 30), titles(0, 0, 0), titles(1, 0, 0), titles(0), titles(1), breaks(0, [5]),
    breaks(1, [5]), breaks(0, []), breaks(1, []), paper(600, 800, 10, 30, 30, 40), paper(600, 800, 10, 20, 30, 41),
    areas((50, 3, 60, 5), (0, 0, 99, 9)), scale(81), fit(1, 2), how(0, 1, 1, 9), how(1, 0, 1, 9), how(1, 1, 0, 9),
    how(1, 1, 1, 8), heads("&P/&N", ""), heads("", "&A"),
]


def look(*calls):
    """What all the questions answer behind these calls."""
    return ask(*calls, *LOOK)[-len(LOOK):]


class Changes(unittest.TestCase):
    def test_each_change_shows(self):
        before = look(*CHANGED)
        for change in CHANGES:
            self.assertNotEqual(look(*CHANGED, change), before, change)

    def test_a_change_shows_behind_questions_too(self):
        # Nothing that was reckoned for the questions ahead of a change may be left.
        for change in CHANGES:
            self.assertEqual(look(*CHANGED, *LOOK, change), look(*CHANGED, change), change)

    def test_changes_one_behind_another(self):
        told = []
        for change in CHANGES:
            told.append(change)
            self.assertEqual(look(*CHANGED, *[call for one in told for call in (PAGES, one)]), look(*CHANGED, *told))

    def test_the_order_of_other_changes_is_free(self):
        self.assertEqual(look(*reversed(CHANGED)), look(*CHANGED))

    def test_each_change_leaves_the_others(self):
        for place, change in enumerate(CHANGED):
            others = CHANGED[:place] + CHANGED[place + 1:]
            self.assertEqual(look(change, *others), look(*others, change), change)

    def test_questions_change_nothing(self):
        for question in LOOK:
            self.assertEqual(look(*CHANGED, question, question), look(*CHANGED), question)


class Refusals(unittest.TestCase):
    def test_each_is_its_number_alone(self):
        for refused, number in REFUSED:
            self.assertEqual(ask(*CHANGED, refused)[-1], said(number), refused)
            self.assertEqual(ask(refused), [said(number)], refused)

    def test_nothing_is_changed(self):
        before = look(*CHANGED)
        for refused, number in REFUSED:
            self.assertEqual(look(*CHANGED, refused), before, refused)
            self.assertEqual(look(*CHANGED, *LOOK, refused), before, refused)

    def test_nothing_is_changed_with_fit(self):
        fitted = [*CHANGED, fit(2, 3)]
        before = look(*fitted)
        self.assertNotEqual(before, look(*CHANGED))
        for refused, number in REFUSED:
            self.assertEqual(look(*fitted, refused), before, refused)

    def test_nothing_is_changed_as_at_first(self):
        before = look(AREAS)
        for refused, number in REFUSED:
            self.assertEqual(look(AREAS, refused), before, refused)

    def test_the_201st_size_changes_nothing(self):
        for way in (0, 1):
            full = [size(way, 0, 9, 5)] * 200
            self.assertEqual(look(AREAS, *full, size(way, 0, 9, 6)), look(AREAS, *full))

    def test_all_of_them_one_behind_another(self):
        told = [refused for refused, number in REFUSED]
        self.assertEqual(look(*CHANGED, *told), look(*CHANGED))


class Begins(unittest.TestCase):
    def test_behind_all_calls(self):
        everything = [*CHANGED, fit(1, 1), *LOOK, *[refused for refused, number in REFUSED]]
        self.assertEqual(ask(*everything, BEGINS, *LOOK)[len(everything):], [said(0)] + ask(*LOOK))
        self.assertEqual(look(*everything, BEGINS, AREAS), look(AREAS))
        self.assertEqual(look(*everything, BEGINS, *CHANGED), look(*CHANGED))

    def test_behind_each_call(self):
        for call in [*CHANGED, *CHANGES]:
            self.assertEqual(look(call, BEGINS, AREAS, heads("&P", "&N")), look(AREAS, heads("&P", "&N")), call)

    def test_there_are_no_areas(self):
        told = ask(*CHANGED, BEGINS, PAGES, page(0), where(0, 0), texts(0))
        self.assertEqual(told[-5:], [said(0), said(0, 100), said(-6), said(0), said(-6)])

    def test_as_at_first(self):
        told = ask(*CHANGED, BEGINS, AREAS, PAGES, page(1), where(40, 8))
        self.assertEqual(told[-3:], [
            said(7, 100, 3, 2, 1, 1),
            said(0, 0, 37, 73, 0, 6, 0, 0, 44800, 74000),
            said(1, 4, 5000 + 6400, 5000 + 3 * 2000),
        ])
