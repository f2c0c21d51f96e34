"""Writes calls as lists of numbers, asks them, and takes the answers apart."""

from sheetpages.sheet import answers

BEGINS = [0]

# By way: how many places there are.
PLACES = (4096, 256)

# Far beyond all limits, and still a number that may be handed in.
LARGEST = 4294967295

PAGES = [10]

# A space of 100 points across and down, so that five rows or columns of 20 have room, and 10000 hundredths.
SQUARE = [2, 100, 100, 0, 0, 0, 0]


def size(way, first, to, n):
    return [1, way, first, to, n]


def paper(width, height, left, right, top, bottom):
    return [2, width, height, left, right, top, bottom]


def areas(*told):
    corners = [number for area in told for number in area]
    return [3, len(corners)] + corners


def titles(way, *span):
    return [4, way, len(span)] + list(span)


def breaks(way, places):
    return [5, way, len(places)] + list(places)


def scale(p):
    return [6, p]


def fit(wide, tall):
    return [7, wide, tall]


def how(over, across, down, first):
    return [8, over, across, down, first]


def heads(head, foot):
    """Head and foot are texts, or lists of bytes."""
    head = list_of_bytes(head)
    foot = list_of_bytes(foot)
    return [9, len(head)] + head + [len(foot)] + foot


def page(n):
    return [11, n]


def where(row, column):
    return [12, row, column]


def texts(n):
    return [13, n]


def list_of_bytes(text):
    return list(text.encode("ascii")) if isinstance(text, str) else list(text)


def ask(*calls):
    """Ask the calls of one sheet; give for each what it answers, behind how many numbers that is."""
    told = answers([number for call in calls for number in call])
    taken = []
    place = 0
    while place < len(told):
        end = place + 1 + told[place]
        taken.append(told[place:end])
        place = end
    return taken


def said(*numbers):
    """What a call gives that answers these numbers."""
    return [len(numbers)] + list(numbers)


def said_texts(*parts):
    """What texts gives that answers these six parts."""
    told = [0]
    for part in parts:
        told.append(len(part))
        told.extend(list_of_bytes(part))
    return said(*told)


def last_said(*calls):
    """What the last call answers."""
    return ask(*calls)[-1][1:]


def all_pages(*calls):
    """What page answers behind its 0, for each page there is behind these calls."""
    count = last_said(*calls, PAGES)[0]
    told = ask(*calls, *[page(n) for n in range(count)])
    return [answer[2:] for answer in told[len(calls):]]


def row_bands(*calls):
    """The rows of each page, first and last; pages are to differ in their rows alone."""
    return [tuple(told[1:3]) for told in all_pages(*calls)]


def column_bands(*calls):
    """The columns of each page, first and last; pages are to differ in their columns alone."""
    return [tuple(told[3:5]) for told in all_pages(*calls)]
