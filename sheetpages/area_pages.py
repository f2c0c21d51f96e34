"""The pages of one area."""


class AreaPages:
    """An area's bands of rows by its bands of columns, in the order of its pages."""

    def __init__(self, area_place, first_page, row_bands, column_bands, beside_first):
        self.area_place = area_place
        self.first_page = first_page
        self.row_bands = row_bands
        self.column_bands = column_bands
        self.beside_first = beside_first

    def count_pages(self):
        """Give how many pages the area has."""
        return len(self.row_bands) * len(self.column_bands)

    def row_band_of(self, number):
        """Give the band of rows that is on a page of the area."""
        place = number - self.first_page
        if self.beside_first:
            return self.row_bands[place // len(self.column_bands)]
        return self.row_bands[place % len(self.row_bands)]

    def column_band_of(self, number):
        """Give the band of columns that is on a page of the area."""
        place = number - self.first_page
        if self.beside_first:
            return self.column_bands[place % len(self.column_bands)]
        return self.column_bands[place // len(self.row_bands)]

    def has_cell(self, row, column):
        """Tell whether a cell is in the area."""
        return is_within(row, self.row_bands) and is_within(column, self.column_bands)

    def page_of(self, row, column):
        """Give the page on which a cell of the area stands."""
        down = band_place(row, self.row_bands)
        across = band_place(column, self.column_bands)
        if self.beside_first:
            return self.first_page + down * len(self.column_bands) + across
        return self.first_page + across * len(self.row_bands) + down


def is_within(place, bands):
    """Tell whether a place is in one of the bands that lie one behind another."""
    return bands[0][0] <= place <= bands[-1][1]


def band_place(place, bands):
    """Give which of the bands has a place that is in one of them."""
    found = 0
    while bands[found][1] < place:
        found += 1
    return found
