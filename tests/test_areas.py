"""Promise 3: areas."""

import unittest

from tests.telling import BEGINS, LARGEST, areas, ask, said

SMALL = (0, 0, 1, 1)


class Areas(unittest.TestCase):
    def test_answers_how_many(self):
        self.assertEqual(ask(areas(SMALL)), [said(1)])
        self.assertEqual(ask(areas((0, 0, 9, 9), (5, 5, 12, 12), (0, 0, 9, 9))), [said(3)])

    def test_none(self):
        self.assertEqual(ask(areas()), [said(0)])

    def test_these_are_instead_of_those_before(self):
        told = ask(areas(SMALL, SMALL, SMALL), areas(SMALL), areas(), areas(SMALL, SMALL))
        self.assertEqual(told, [said(3), said(1), said(0), said(2)])

    def test_the_last_row_and_column(self):
        self.assertEqual(ask(areas((4095, 255, 4095, 255))), [said(1)])
        self.assertEqual(ask(areas((3000, 0, 4095, 255))), [said(1)])

    def test_beyond_the_last_row(self):
        self.assertEqual(ask(areas((4095, 0, 4096, 0))), [said(-1)])
        self.assertEqual(ask(areas((4096, 0, 4096, 0))), [said(-1)])
        self.assertEqual(ask(areas((0, 0, LARGEST, 0))), [said(-1)])

    def test_beyond_the_last_column(self):
        self.assertEqual(ask(areas((0, 255, 0, 256))), [said(-1)])
        self.assertEqual(ask(areas((0, 256, 0, 256))), [said(-1)])
        self.assertEqual(ask(areas((0, 0, 0, LARGEST))), [said(-1)])

    def test_first_equal_to_last_and_above_it(self):
        self.assertEqual(ask(areas((7, 3, 7, 3))), [said(1)])
        self.assertEqual(ask(areas((8, 3, 7, 3))), [said(-1)])
        self.assertEqual(ask(areas((7, 4, 7, 3))), [said(-1)])

    def test_first_and_last_are_told_apart_by_their_order(self):
        self.assertEqual(ask(areas((300, 2, 400, 1))), [said(-1)])
        self.assertEqual(ask(areas((2, 5, 1, 9))), [said(-1)])
        self.assertEqual(ask(areas((9, 2, 9, 7))), [said(1)])

    def test_one_wrong_area_refuses_all(self):
        wrong = (0, 0, 4096, 0)
        self.assertEqual(ask(areas(wrong, SMALL)), [said(-1)])
        self.assertEqual(ask(areas(SMALL, wrong)), [said(-1)])
        self.assertEqual(ask(areas(SMALL, wrong, SMALL)), [said(-1)])

    def test_32_and_33(self):
        self.assertEqual(ask(areas(*[SMALL] * 32)), [said(32)])
        self.assertEqual(ask(areas(*[SMALL] * 33)), [said(-5)])
        self.assertEqual(ask(areas(*[SMALL] * 40)), [said(-5)])

    def test_wrong_areas_are_answered_ahead_of_too_many(self):
        for wrong in ((1, 0, 0, 0), (0, 1, 0, 0), (0, 0, 4096, 0), (0, 0, 0, 256)):
            self.assertEqual(ask(areas(wrong, *[SMALL] * 32)), [said(-1)])
            self.assertEqual(ask(areas(*[SMALL] * 32, wrong)), [said(-1)])

    def test_goes_on_behind_refusals_and_begins(self):
        told = ask(areas(SMALL, SMALL), areas((1, 0, 0, 0)), areas(*[SMALL] * 33), BEGINS, areas(SMALL))
        self.assertEqual(told, [said(2), said(-1), said(-5), said(0), said(1)])
