"""The interface: how calls are handed in, and what is given back."""

import unittest

from sheetpages.sheet import answers
from tests.telling import BEGINS, areas, ask, breaks, paper, said, scale, size, titles


def one_after_another():
    """Calls of each number, taken and refused, as they are handed in."""
    calls = [
        [0],
        [1, 0, 3, 9, 40],
        [2, 600, 800, 10, 20, 30, 40],
        [3, 8, 0, 0, 99, 9, 5, 5, 5, 5],
        [4, 0, 2, 0, 1],
        [4, 1, 0],
        [5, 1, 3, 9, 3, 6],
        [5, 0, 0],
        [6, 80],
        [1, 0, 9, 3, 40],
        [2, 600, 800, 300, 300, 30, 40],
        [3, 4, 0, 0, 4096, 0],
        [4, 1, 2, 0, 256],
        [5, 0, 1, 4096],
        [6, 9],
        [1, 0, 0, 0, 0],
        [3, 0],
    ]
    return [number for call in calls for number in call]


ANSWERS = [0, 1, 0, 2, 0, 0, 0, 0, 0, -1, -1, -1, -1, -1, -1, 2, 0]


def with_lengths(numbers):
    return [told for number in numbers for told in (1, number)]


class OneChange(Exception):
    pass


class Guarded(list):
    """A list that takes no change, not for a while either."""

    def refuse(self, *told):
        raise OneChange()

    append = extend = insert = pop = remove = clear = sort = reverse = refuse
    __setitem__ = __delitem__ = __iadd__ = __imul__ = refuse


class Answers(unittest.TestCase):
    def test_begins_by_itself(self):
        self.assertEqual(answers([0]), [1, 0])

    def test_calls_one_behind_another(self):
        self.assertEqual(answers(one_after_another()), with_lengths(ANSWERS))

    def test_gives_a_list_of_whole_numbers(self):
        given = answers(one_after_another())
        self.assertIs(type(given), list)
        for number in given:
            self.assertIs(type(number), int)

    def test_what_is_handed_in_stays_the_same(self):
        calls = one_after_another()
        answers(calls)
        self.assertEqual(calls, one_after_another())

    def test_what_is_handed_in_is_not_changed_for_a_while_either(self):
        self.assertEqual(answers(Guarded(one_after_another())), with_lengths(ANSWERS))

    def test_nothing_is_kept_from_one_time_to_the_next(self):
        full = [1, 0, 0, 0, 0] * 200
        self.assertEqual(answers(full)[-1], 200)
        self.assertEqual(answers([1, 0, 0, 0, 0]), [1, 1])
        self.assertEqual(answers(full), with_lengths(range(1, 201)))

    def test_what_was_given_back_may_be_changed(self):
        calls = one_after_another()
        answers(calls).clear()
        self.assertEqual(answers(calls), with_lengths(ANSWERS))

    def test_begins_behind_each_other_call(self):
        calls = [
            size(0, 0, 1, 2),
            size(1, 0, 1, 2),
            paper(10, 10, 1, 1, 1, 1),
            areas((0, 0, 1, 1)),
            titles(0, 0, 1),
            breaks(1, [3]),
            scale(20),
        ]
        for call in calls:
            once = ask(call)
            self.assertEqual(ask(call, BEGINS, call), once + [said(0)] + once)

    def test_200_calls(self):
        self.assertEqual(ask(*[BEGINS] * 200), [said(0)] * 200)

    def test_a_long_list(self):
        calls = [breaks(0, range(500))] * 59
        self.assertEqual(ask(*calls), [said(0)] * 59)
