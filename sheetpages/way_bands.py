"""One way of a sheet on paper: how places fall in bands, what comes again, and where a place stands."""


class WayBands:
    """Measures one way as it is set now; what is set anew needs another one."""

    def __init__(self, way):
        self.way = way
        # How far each place is from the first one, in points, and at the end how long all of them are.
        self.starts = [0]
        for size in way.sizes:
            self.starts.append(self.starts[-1] + size)

    def again_from(self, first):
        """Give the first place of what comes again on a page that begins with first."""
        titles = self.way.titles
        if titles is None:
            return first
        return min(titles[0], first)

    def again_end(self, first):
        """Give the place behind the last one of what comes again on a page that begins with first."""
        titles = self.way.titles
        if titles is None:
            return first
        return min(titles[1] + 1, first)

    def count_again(self, first):
        """Give how many places come again on a page that begins with first."""
        return self.again_end(first) - self.again_from(first)

    def again_size(self, first):
        """Give how long all is that comes again on a page that begins with first."""
        return self.starts[self.again_end(first)] - self.starts[self.again_from(first)]

    def band_end(self, first, last, scale):
        """Give the place behind the band that begins with first, of an area that goes to last."""
        # In whole points of the sheet: sizes are whole, so a part of a point more has room for nothing.
        room = 100 * self.way.space // scale
        farthest = self.starts[first] + room - self.again_size(first)
        breaks = self.way.breaks
        end = first + 1
        while end <= last and end not in breaks and self.starts[end + 1] <= farthest:
            end += 1
        return end

    def find_bands(self, first, last, scale):
        """Give the bands of the places from first to last, each as its first and its last place."""
        bands = []
        while first <= last:
            end = self.band_end(first, last, scale)
            bands.append((first, end - 1))
            first = end
        return bands

    def has_more_bands(self, first, last, scale, most):
        """Tell whether the places from first to last fall in more than so many bands; 0 is any number."""
        if most == 0:
            return False
        count = 0
        while first <= last and count <= most:
            first = self.band_end(first, last, scale)
            count += 1
        return count > most

    def page_size(self, band, scale):
        """Give how much room what comes again and a band take on paper, in hundredths of a point."""
        length = self.starts[band[1] + 1] - self.starts[band[0]]
        return (self.again_size(band[0]) + length) * scale

    def distance(self, place, band, scale):
        """Give how far a place of a band stands from the paper's edge, in hundredths of a point."""
        ahead = self.again_size(band[0]) + self.starts[place] - self.starts[band[0]]
        left_over = 100 * self.way.space - self.page_size(band, scale)
        shift = 0
        if self.way.in_middle and left_over > 0:
            shift = left_over // 2
        return 100 * self.way.edge + shift + ahead * scale
