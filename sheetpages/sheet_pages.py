"""All pages of a sheet as it is set."""

from sheetpages.area_pages import AreaPages
from sheetpages.refusals import NoSuchPage
from sheetpages.way_bands import WayBands
from sheetpages.written_texts import write_text

LARGEST_FITTING = 100
SMALLEST_FITTING = 10


class SheetPages:
    """The pages of each area, one area's behind another's; they count until something is set anew."""

    def __init__(self, settings):
        self.settings = settings
        self.rows = WayBands(settings.ways[0])
        self.columns = WayBands(settings.ways[1])
        self.used_scale = settings.scale
        if settings.fit is not None:
            self.used_scale = self.find_fitting_scale()
        self.page_count = 0
        self.area_pages = []
        for area in settings.areas:
            row_bands = self.rows.find_bands(area[0], area[2], self.used_scale)
            column_bands = self.columns.find_bands(area[1], area[3], self.used_scale)
            place = len(self.area_pages)
            pages = AreaPages(place, self.page_count, row_bands, column_bands, settings.beside_first)
            self.area_pages.append(pages)
            self.page_count += pages.count_pages()

    def find_fitting_scale(self):
        """Give the greatest scale by which all areas fit, or the smallest there is."""
        scale = LARGEST_FITTING
        while scale > SMALLEST_FITTING and not self.fits(scale):
            scale -= 1
        return scale

    def fits(self, scale):
        """Tell whether no area has more bands by a scale than are wanted."""
        wide = self.settings.fit[0]
        tall = self.settings.fit[1]
        for area in self.settings.areas:
            if self.rows.has_more_bands(area[0], area[2], scale, tall):
                return False
            if self.columns.has_more_bands(area[1], area[3], scale, wide):
                return False
        return True

    def tell_pages(self):
        """Give how many pages there are, the scale, and how many bands each area has."""
        told = [self.page_count, self.used_scale]
        for pages in self.area_pages:
            told.append(len(pages.row_bands))
            told.append(len(pages.column_bands))
        return told

    def area_pages_with(self, number):
        """Give the pages of the area that a page is one of."""
        if number >= self.page_count:
            raise NoSuchPage()
        place = 0
        while number >= self.area_pages[place].first_page + self.area_pages[place].count_pages():
            place += 1
        return self.area_pages[place]

    def tell_page(self, number):
        """Give what is on a page, and how large all of it is."""
        pages = self.area_pages_with(number)
        row_band = pages.row_band_of(number)
        column_band = pages.column_band_of(number)
        told = [0, pages.area_place]
        told.extend(row_band)
        told.extend(column_band)
        told.append(self.rows.count_again(row_band[0]))
        told.append(self.columns.count_again(column_band[0]))
        told.append(self.columns.page_size(column_band, self.used_scale))
        told.append(self.rows.page_size(row_band, self.used_scale))
        return told

    def tell_where(self, row, column):
        """Give how many areas have a cell, and for each the page and where on it the cell stands."""
        self.settings.ways[0].check_span(row, row)
        self.settings.ways[1].check_span(column, column)
        count = 0
        told = []
        for pages in self.area_pages:
            if pages.has_cell(row, column):
                number = pages.page_of(row, column)
                count += 1
                told.append(number)
                told.append(self.columns.distance(column, pages.column_band_of(number), self.used_scale))
                told.append(self.rows.distance(row, pages.row_band_of(number), self.used_scale))
        return [count] + told

    def tell_texts(self, number):
        """Give the three parts of the head and of the foot of a page, each behind how many bytes it has."""
        area_number = self.area_pages_with(number).area_place + 1
        page_number = self.settings.first_number + number
        told = [0]
        for text in (self.settings.head, self.settings.foot):
            for part in write_text(text, page_number, self.page_count, area_number):
                told.append(len(part))
                told.extend(part)
        return told
