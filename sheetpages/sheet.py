"""Answers calls about one sheet."""

from sheetpages.reading import read_calls
from sheetpages.refusals import CannotBeTold, NoSuchPage, OutOfRange, TooMany
from sheetpages.sheet_pages import SheetPages
from sheetpages.sheet_settings import SheetSettings

QUESTIONS = ("pages", "page", "where", "texts")


class Sheet:
    """A sheet's settings, and its pages, which are kept: many questions may come between two changes."""

    def __init__(self):
        self.settings = SheetSettings()
        self.kept_pages = None

    def change(self):
        """Give the settings, to be changed: the pages that were made of them count no more."""
        self.kept_pages = None
        return self.settings

    def ask(self):
        """Give the pages as the settings are now."""
        if self.kept_pages is None:
            self.kept_pages = SheetPages(self.settings)
        return self.kept_pages


def answers(calls):
    """Make the calls on one new sheet; give for each how many numbers are answered, then these."""
    sheet = Sheet()
    given = []
    for name, numbers, lists in read_calls(calls):
        told = answer_call(sheet, name, numbers, lists)
        given.append(len(told))
        given.extend(told)
    return given


def answer_call(sheet, name, numbers, lists):
    """Give the numbers that one call answers; a refusal is its number alone."""
    try:
        if name in QUESTIONS:
            return answer_question(sheet.ask(), name, numbers)
        return make_change(sheet.change(), name, numbers, lists)
    except OutOfRange:
        return [-1]
    except CannotBeTold:
        return [-3]
    except TooMany:
        return [-5]
    except NoSuchPage:
        return [-6]


def make_change(settings, name, numbers, lists):
    """Make one call that changes settings; give the numbers that it answers."""
    if name == "begins":
        settings.begin()
    elif name == "size":
        way = settings.ways[numbers[0]]
        way.set_size(numbers[1], numbers[2], numbers[3])
        return [way.sizes_told]
    elif name == "paper":
        settings.set_paper(numbers[0], numbers[1], numbers[2], numbers[3], numbers[4], numbers[5])
    elif name == "areas":
        settings.set_areas(lists[0])
        return [len(settings.areas)]
    elif name == "titles":
        settings.ways[numbers[0]].set_titles(lists[0])
    elif name == "breaks":
        settings.ways[numbers[0]].set_breaks(lists[0])
    elif name == "scale":
        settings.set_scale(numbers[0])
    elif name == "fit":
        settings.set_fit(numbers[0], numbers[1])
    elif name == "how":
        settings.set_how(numbers[0], numbers[1], numbers[2], numbers[3])
    elif name == "heads":
        settings.set_heads(lists[0], lists[1])
    return [0]


def answer_question(pages, name, numbers):
    """Give the numbers that one call answers that asks of pages."""
    if name == "page":
        return pages.tell_page(numbers[0])
    if name == "where":
        return pages.tell_where(numbers[0], numbers[1])
    if name == "texts":
        return pages.tell_texts(numbers[0])
    return pages.tell_pages()
