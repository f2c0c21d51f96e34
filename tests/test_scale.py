"""Promise 5, as far as it speaks of scale by itself; test_fit.py has both."""

import unittest

from tests.telling import BEGINS, LARGEST, ask, said, scale


class Scale(unittest.TestCase):
    def test_an_ordinary_scale(self):
        self.assertEqual(ask(scale(100)), [said(0)])
        self.assertEqual(ask(scale(75), scale(250)), [said(0), said(0)])

    def test_9_and_10(self):
        self.assertEqual(ask(scale(9), scale(10)), [said(-1), said(0)])

    def test_400_and_401(self):
        self.assertEqual(ask(scale(400), scale(401)), [said(0), said(-1)])

    def test_far_beyond(self):
        self.assertEqual(ask(scale(0), scale(LARGEST)), [said(-1), said(-1)])

    def test_goes_on_behind_a_refusal_and_begins(self):
        self.assertEqual(ask(scale(401), BEGINS, scale(50)), [said(-1), said(0), said(0)])
