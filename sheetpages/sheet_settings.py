"""What is set for one sheet."""

from sheetpages.refusals import OutOfRange, TooMany
from sheetpages.way_settings import WaySettings

LONGEST_SIDE = 100000
MOST_AREAS = 32
SMALLEST_SCALE = 10
LARGEST_SCALE = 400


class SheetSettings:
    """The two ways, rows ahead of columns, the areas and the scale of one sheet."""

    def __init__(self):
        self.begin()

    def begin(self):
        """Set all as it is at first."""
        self.ways = (WaySettings(4096, 20), WaySettings(256, 64))
        self.set_paper(595, 842, 50, 50, 50, 50)
        self.areas = []
        self.scale = 100

    def set_paper(self, width, height, left, right, top, bottom):
        """Take another paper."""
        check_side(width, left, right)
        check_side(height, top, bottom)
        rows = self.ways[0]
        rows.edge = top
        rows.space = height - top - bottom
        columns = self.ways[1]
        columns.edge = left
        columns.space = width - left - right

    def set_areas(self, corners):
        """Take these areas instead of those before: of each the first row, first column, last row, last column."""
        areas = []
        for start in range(0, len(corners), 4):
            area = tuple(corners[start:start + 4])
            self.ways[0].check_span(area[0], area[2])
            self.ways[1].check_span(area[1], area[3])
            areas.append(area)
        if len(areas) > MOST_AREAS:
            raise TooMany()
        self.areas = areas

    def set_scale(self, scale):
        """Take another scale, in hundredths."""
        if scale < SMALLEST_SCALE or scale > LARGEST_SCALE:
            raise OutOfRange()
        self.scale = scale


def check_side(length, near, far):
    """Refuse a side of the paper that is too long, or that its two edges leave no space."""
    if length > LONGEST_SIDE or near + far >= length:
        raise OutOfRange()
