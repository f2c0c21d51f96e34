"""What is set for one sheet."""

from sheetpages.refusals import OutOfRange, TooMany
from sheetpages.way_settings import WaySettings
from sheetpages.written_texts import check_text

LONGEST_SIDE = 100000
MOST_AREAS = 32
SMALLEST_SCALE = 10
LARGEST_SCALE = 400
MOST_BANDS = 1000
FARTHEST_FIRST_NUMBER = 1000000


class SheetSettings:
    """What is told of one sheet: its two ways, rows ahead of columns, and what is told for all of it."""

    def __init__(self):
        self.begin()

    def begin(self):
        """Set all as it is at first."""
        self.ways = (WaySettings(4096, 20), WaySettings(256, 64))
        self.set_paper(595, 842, 50, 50, 50, 50)
        self.areas = []
        self.scale = 100
        self.fit = None
        self.beside_first = False
        self.first_number = 1
        self.head = []
        self.foot = []

    def set_paper(self, width, height, left, right, top, bottom):
        """Take another paper."""
        check_side(width, left, right)
        check_side(height, top, bottom)
        rows = self.ways[0]
        rows.edge = top
        rows.space = height - top - bottom
        columns = self.ways[1]
        columns.edge = left
        columns.space = width - left - right

    def set_areas(self, corners):
        """Take these areas instead of those before: of each the first row, first column, last row, last column."""
        areas = []
        for start in range(0, len(corners), 4):
            area = tuple(corners[start:start + 4])
            self.ways[0].check_span(area[0], area[2])
            self.ways[1].check_span(area[1], area[3])
            areas.append(area)
        if len(areas) > MOST_AREAS:
            raise TooMany()
        self.areas = areas

    def set_scale(self, scale):
        """Take another scale, in hundredths."""
        if scale < SMALLEST_SCALE or scale > LARGEST_SCALE:
            raise OutOfRange()
        self.scale = scale
        self.fit = None

    def set_fit(self, wide, tall):
        """Take, instead of a scale, how many bands of columns and of rows an area may have; 0 is any number."""
        if wide > MOST_BANDS or tall > MOST_BANDS:
            raise OutOfRange()
        self.fit = (wide, tall)

    def set_how(self, over, across, down, first_number):
        """Take the order of pages, whether all is in the middle across and down, and the first page's number."""
        if abs(first_number) > FARTHEST_FIRST_NUMBER:
            raise OutOfRange()
        rows = self.ways[0]
        columns = self.ways[1]
        rows.in_middle = down == 1
        columns.in_middle = across == 1
        self.beside_first = over == 1
        self.first_number = first_number

    def set_heads(self, head, foot):
        """Take other texts for above and below."""
        check_text(head)
        check_text(foot)
        self.head = head
        self.foot = foot


def check_side(length, near, far):
    """Refuse a side of the paper that is too long, or that its two edges leave no space."""
    if length > LONGEST_SIDE or near + far >= length:
        raise OutOfRange()
