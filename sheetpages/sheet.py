"""Answers calls about one sheet."""

from sheetpages.reading import read_calls
from sheetpages.refusals import OutOfRange, TooMany
from sheetpages.sheet_settings import SheetSettings


def answers(calls):
    """Make the calls on one new sheet; give for each how many numbers are answered, then these."""
    settings = SheetSettings()
    given = []
    for name, numbers, lists in read_calls(calls):
        told = answer_call(settings, name, numbers, lists)
        given.append(len(told))
        given.extend(told)
    return given


def answer_call(settings, name, numbers, lists):
    """Give the numbers that one call answers; a refusal is its number alone."""
    try:
        return make_call(settings, name, numbers, lists)
    except OutOfRange:
        return [-1]
    except TooMany:
        return [-5]


def make_call(settings, name, numbers, lists):
    """Make one call that may be refused; give the numbers that it answers."""
    if name == "begins":
        settings.begin()
    elif name == "size":
        way = settings.ways[numbers[0]]
        way.set_size(numbers[1], numbers[2], numbers[3])
        return [way.sizes_told]
    elif name == "paper":
        settings.set_paper(numbers[0], numbers[1], numbers[2], numbers[3], numbers[4], numbers[5])
    elif name == "areas":
        settings.set_areas(lists[0])
        return [len(settings.areas)]
    elif name == "titles":
        settings.ways[numbers[0]].set_titles(lists[0])
    elif name == "breaks":
        settings.ways[numbers[0]].set_breaks(lists[0])
    elif name == "scale":
        settings.set_scale(numbers[0])
    return [0]
