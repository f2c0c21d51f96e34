"""Writes calls as lists of numbers, asks them, and takes the answers apart."""

from sheetpages.sheet import answers

BEGINS = [0]

# By way: how many places there are.
PLACES = (4096, 256)

# Far beyond all limits, and still a number that may be handed in.
LARGEST = 4294967295


def size(way, first, to, n):
    return [1, way, first, to, n]


def paper(width, height, left, right, top, bottom):
    return [2, width, height, left, right, top, bottom]


def areas(*told):
    corners = [number for area in told for number in area]
    return [3, len(corners)] + corners


def titles(way, *span):
    return [4, way, len(span)] + list(span)


def breaks(way, places):
    return [5, way, len(places)] + list(places)


def scale(p):
    return [6, p]


def ask(*calls):
    """Ask the calls of one sheet; give for each what it answers, behind how many numbers that is."""
    told = answers([number for call in calls for number in call])
    taken = []
    place = 0
    while place < len(told):
        end = place + 1 + told[place]
        taken.append(told[place:end])
        place = end
    return taken


def said(*numbers):
    """What a call gives that answers these numbers."""
    return [len(numbers)] + list(numbers)
