"""What is set for one way of a sheet, for its rows or for its columns."""

from sheetpages.refusals import OutOfRange, TooMany

MOST_SIZES = 200
LARGEST_SIZE = 10000
MOST_BREAKS = 500


class WaySettings:
    """The places of one way with their sizes, the titles, the breaks, and how they go on the paper."""

    def __init__(self, place_count, size):
        self.place_count = place_count
        self.sizes = [size] * place_count
        self.sizes_told = 0
        # These three are told for the whole sheet, and set from there.
        self.edge = 0
        self.space = 0
        self.in_middle = False
        self.titles = None
        self.breaks = {}

    def check_span(self, first, last):
        """Refuse what does not go from one place to the same or a later one."""
        if first > last or last >= self.place_count:
            raise OutOfRange()

    def set_size(self, first, last, size):
        """Give the places from first to last a size."""
        self.check_span(first, last)
        if size > LARGEST_SIZE:
            raise OutOfRange()
        if self.sizes_told >= MOST_SIZES:
            raise TooMany()
        for place in range(first, last + 1):
            self.sizes[place] = size
        self.sizes_told += 1

    def set_titles(self, span):
        """Take the places from span's first to its second number as titles, or none if it is empty."""
        if len(span) == 0:
            self.titles = None
            return
        self.check_span(span[0], span[1])
        self.titles = (span[0], span[1])

    def set_breaks(self, places):
        """Take these breaks instead of those before."""
        for place in places:
            if place >= self.place_count:
                raise OutOfRange()
        if len(places) > MOST_BREAKS:
            raise TooMany()
        # Each place a key: bands ask for every row and column whether a break is at it.
        breaks = {}
        for place in places:
            breaks[place] = True
        self.breaks = breaks
