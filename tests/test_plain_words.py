"""Many lines of calls, held against a sheet that is reckoned straight from the document's words."""

import random
import unittest

from tests.plain_sheet import PlainSheet
from tests.telling import (
    PAGES, areas, ask, breaks, fit, heads, how, last_said, page, paper, scale, size, texts, titles, where,
)

PIECES = ["&L", "&C", "&R", "&P", "&N", "&A", "&&", "a", "P", "-", "9"]

# Places from 0 to this one are told of, so that settings meet one another.
FARTHEST = 30


def some_span(chance):
    return sorted([chance.randint(0, FARTHEST), chance.randint(0, FARTHEST)])


def some_size(chance):
    return chance.choice([0, 1, 17, 33, 50, 99, 100, 101, 150, chance.randint(0, 400)])


def change_one(chance, sheet):
    """Change something of the plain sheet; give the call that tells the same."""
    kind = chance.randint(0, 8)
    way = chance.randint(0, 1)
    first, last = some_span(chance)
    if kind == 0:
        n = some_size(chance)
        for place in range(first, last + 1):
            sheet.sizes[way][place] = n
        return size(way, first, last, n)
    if kind == 1:
        top, left, bottom, right = [chance.randint(0, 9) for turn in range(4)]
        sheet.space = [chance.randint(50, 300), chance.randint(50, 300)]
        sheet.edge = [top, left]
        return paper(sheet.space[1] + left + right, sheet.space[0] + top + bottom, left, right, top, bottom)
    if kind == 2:
        spans = [(some_span(chance), some_span(chance)) for turn in range(chance.randint(0, 3))]
        sheet.areas = [(rows[0], columns[0], rows[1], columns[1]) for rows, columns in spans]
        return areas(*sheet.areas)
    if kind == 3:
        told = chance.random() < 0.8
        last = min(last, first + 5)
        sheet.titles[way] = list(range(first, last + 1)) if told else []
        return titles(way, first, last) if told else titles(way)
    if kind == 4:
        sheet.breaks[way] = [chance.randint(0, FARTHEST) for turn in range(chance.randint(0, 3))]
        return breaks(way, sheet.breaks[way])
    return change_whole(chance, sheet, kind)


def change_whole(chance, sheet, kind):
    if kind == 5:
        sheet.scale = chance.randint(10, chance.choice([100, 400]))
        sheet.fit = None
        return scale(sheet.scale)
    if kind == 6:
        sheet.fit = (chance.randint(0, 8), chance.randint(0, 8))
        return fit(*sheet.fit)
    if kind == 7:
        sheet.over, sheet.middle[1], sheet.middle[0] = [chance.randint(0, 1) for turn in range(3)]
        sheet.first = chance.randint(-30, 30)
        return how(sheet.over, sheet.middle[1], sheet.middle[0], sheet.first)
    sheet.texts = [chance.choices(PIECES, k=chance.randint(0, 9)) for turn in range(2)]
    return heads("".join(sheet.texts[0]), "".join(sheet.texts[1]))


def questions(chance, sheet):
    """Some questions, each with what the plain sheet answers."""
    told = sheet.answer_pages()
    asked = [(PAGES, told)]
    for n in {0, chance.randint(0, told[0]), told[0] - 1, told[0]}:
        if n >= 0:
            asked.append((page(n), sheet.answer_page(n)))
    row = chance.randint(0, FARTHEST)
    column = chance.randint(0, FARTHEST)
    asked.append((where(row, column), sheet.answer_where(row, column)))
    n = chance.randint(0, told[0])
    asked.append((texts(n), sheet.answer_texts(n)))
    return asked


class PlainWords(unittest.TestCase):
    def test_many_lines(self):
        chance = random.Random(20261119)
        for turn in range(150):
            sheet = PlainSheet()
            calls = []
            expected = {}
            while len(calls) < 40:
                calls.append(change_one(chance, sheet))
                if chance.random() < 0.3:
                    for call, answer in questions(chance, sheet):
                        expected[len(calls)] = answer
                        calls.append(call)
            told = ask(*calls)
            for place, answer in expected.items():
                self.assertEqual(told[place][1:], answer, calls[:place + 1])


def fewest_runs(sheet, way, first, last, p):
    """How few runs the places can be divided in, each with room for all of it or of one place alone."""
    fewest = {first: 0}
    for end in range(first + 1, last + 2):
        counts = []
        for begin in range(first, end):
            run = list(range(begin, end))
            whole = not any(place in sheet.breaks[way] for place in run[1:])
            fair = sheet.length(way, sheet.again(way, begin) + run) * p <= 100 * sheet.space[way]
            if len(run) == 1 or (whole and fair):
                counts.append(fewest[begin] + 1)
        fewest[end] = min(counts)
    return fewest[last + 1]


class WhatItStandsFor(unittest.TestCase):
    """What the document promises of all pages together, on sheets by chance."""

    def setUp(self):
        chance = random.Random(8)
        self.sheets = []
        for turn in range(60):
            sheet = PlainSheet()
            calls = [change_one(chance, sheet) for step in range(25)]
            self.sheets.append((sheet, calls, last_said(*calls, PAGES)))

    def test_every_cell_of_an_area_stands_on_just_one_of_its_pages(self):
        for sheet, calls, told in self.sheets:
            stands = {}
            answers = ask(*calls, *[page(n) for n in range(told[0])])[len(calls):]
            for answer in answers:
                area, top, bottom, left, right = answer[2:7]
                for row in range(top, bottom + 1):
                    for column in range(left, right + 1):
                        self.assertNotIn((area, row, column), stands)
                        stands[(area, row, column)] = True
            cells = sum((area[2] - area[0] + 1) * (area[3] - area[1] + 1) for area in sheet.areas)
            self.assertEqual(len(stands), cells)
            for area, row, column in stands:
                corners = sheet.areas[area]
                self.assertTrue(corners[0] <= row <= corners[2] and corners[1] <= column <= corners[3])

    def test_nothing_stands_past_the_edges_but_what_is_larger_than_a_page(self):
        for sheet, calls, told in self.sheets:
            for answer in ask(*calls, *[page(n) for n in range(told[0])])[len(calls):]:
                top, bottom, left, right = answer[3:7]
                self.assertTrue(left == right or answer[9] <= 100 * sheet.space[1])
                self.assertTrue(top == bottom or answer[10] <= 100 * sheet.space[0])

    def test_no_other_division_takes_fewer_pages(self):
        for sheet, calls, told in self.sheets:
            counts = []
            for area in sheet.areas:
                counts.append(fewest_runs(sheet, 0, area[0], area[2], told[1]))
                counts.append(fewest_runs(sheet, 1, area[1], area[3], told[1]))
            self.assertEqual(told[2:], counts)
