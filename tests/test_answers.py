"""The interface: how calls are handed in, and what is given back."""

import unittest

from sheetpages.sheet import answers
from tests.telling import (
    BEGINS, PAGES, areas, ask, breaks, fit, heads, how, page, paper, said, scale, size, texts, titles, where,
)

# Calls of each number, taken and refused, as they are handed in, and what each answers.
TOLD = [
    ([0], [0]),
    ([1, 0, 3, 9, 40], [1]),
    ([2, 600, 800, 10, 20, 30, 40], [0]),
    ([3, 8, 0, 0, 99, 9, 5, 5, 5, 5], [2]),
    ([4, 0, 2, 0, 1], [0]),
    ([4, 1, 0], [0]),
    ([5, 1, 3, 9, 3, 6], [0]),
    ([5, 0, 0], [0]),
    ([6, 80], [0]),
    ([1, 0, 9, 3, 40], [-1]),
    ([2, 600, 800, 300, 300, 30, 40], [-1]),
    ([3, 4, 0, 0, 4096, 0], [-1]),
    ([4, 1, 2, 0, 256], [-1]),
    ([5, 0, 1, 4096], [-1]),
    ([6, 9], [-1]),
    ([1, 0, 0, 0, 0], [2]),
    ([10], [13, 80, 3, 4, 1, 1]),
    ([7, 4, 1], [0]),
    ([10], [5, 34, 1, 4, 1, 1]),
    ([7, 0, 1001], [-1]),
    ([6, 200], [0]),
    ([8, 1, 0, 1, -7], [0]),
    ([8, 0, 0, 0, -1000001], [-1]),
    ([9, 2, 38, 80, 3, 97, 38, 82], [0]),
    ([9, 1, 38, 0], [-3]),
    ([9, 0, 1, 38], [-3]),
    ([11, 1], [0, 0, 0, 11, 3, 5, 0, 0, 38400, 72000]),
    ([11, 4294967295], [-6]),
    ([12, 5, 5], [2, 1, 26600, 27500, 28, 1000, 37500]),
    ([12, 4096, 0], [-1]),
    ([13, 1], [0, 0, 2, 45, 54, 0, 0, 1, 97, 0]),
    ([13, 4294967295], [-6]),
    ([3, 0], [0]),
    ([10], [0, 200]),
]


def one_after_another():
    return [number for call, answer in TOLD for number in call]


ANSWERS = [number for call, answer in TOLD for number in [len(answer)] + answer]


def with_lengths(numbers):
    return [told for number in numbers for told in (1, number)]


class OneChange(Exception):
    pass


class Guarded(list):
    """A list that takes no change, not for a while either."""

    def refuse(self, *told):
        raise OneChange()

    append = extend = insert = pop = remove = clear = sort = reverse = refuse
    __setitem__ = __delitem__ = __iadd__ = __imul__ = refuse


class Answers(unittest.TestCase):
    def test_begins_by_itself(self):
        self.assertEqual(answers([0]), [1, 0])

    def test_calls_one_behind_another(self):
        self.assertEqual(answers(one_after_another()), ANSWERS)

    def test_gives_a_list_of_whole_numbers(self):
        given = answers(one_after_another())
        self.assertIs(type(given), list)
        for number in given:
            self.assertIs(type(number), int)

    def test_what_is_handed_in_stays_the_same(self):
        calls = one_after_another()
        answers(calls)
        self.assertEqual(calls, one_after_another())

    def test_what_is_handed_in_is_not_changed_for_a_while_either(self):
        self.assertEqual(answers(Guarded(one_after_another())), ANSWERS)

    def test_nothing_is_kept_from_one_time_to_the_next(self):
        full = [1, 0, 0, 0, 0] * 200
        self.assertEqual(answers(full)[-1], 200)
        self.assertEqual(answers([1, 0, 0, 0, 0]), [1, 1])
        self.assertEqual(answers(full), with_lengths(range(1, 201)))
        self.assertEqual(answers(one_after_another()), ANSWERS)
        self.assertEqual(answers([10]), [2, 0, 100])
        self.assertEqual(answers(one_after_another()), ANSWERS)

    def test_what_was_given_back_may_be_changed(self):
        calls = one_after_another()
        answers(calls).clear()
        self.assertEqual(answers(calls), ANSWERS)

    def test_begins_behind_each_other_call(self):
        calls = [
            size(0, 0, 1, 2),
            size(1, 0, 1, 2),
            paper(10, 10, 1, 1, 1, 1),
            areas((0, 0, 1, 1)),
            titles(0, 0, 1),
            breaks(1, [3]),
            scale(20),
            fit(1, 2),
            how(1, 1, 1, -5),
            heads("&Pa", "b&&"),
            PAGES,
            page(0),
            where(0, 0),
            texts(0),
        ]
        for call in calls:
            once = ask(call)
            self.assertEqual(ask(call, BEGINS, call), once + [said(0)] + once)

    def test_200_calls(self):
        self.assertEqual(ask(*[BEGINS] * 200), [said(0)] * 200)
        self.assertEqual(ask(areas((0, 0, 99, 9)), *[PAGES] * 199)[1:], [said(6, 100, 3, 2)] * 199)

    def test_an_answer_of_many_numbers(self):
        told = ask(areas((0, 0, 0, 0)), how(0, 0, 0, 999999), heads("&P" * 127, "&P" * 127), *[texts(0)] * 197)
        self.assertEqual([answer[0] for answer in told[3:]], [7 + 2 * 127 * 6] * 197)

    def test_a_long_list(self):
        calls = [breaks(0, range(500))] * 59
        self.assertEqual(ask(*calls), [said(0)] * 59)
