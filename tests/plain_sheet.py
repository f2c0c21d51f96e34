"""A sheet reckoned straight from the document's words, cell by cell and slowly, to hold the program against."""


class PlainSheet:
    def __init__(self):
        self.sizes = [{}, {}]
        self.usual = [20, 64]
        self.edge = [50, 50]
        self.space = [742, 495]
        self.areas = []
        self.titles = [[], []]
        self.breaks = [[], []]
        self.scale = 100
        self.fit = None
        self.over = 0
        self.middle = [0, 0]
        self.first = 1
        self.texts = [[], []]

    def length(self, way, places):
        return sum(self.sizes[way].get(place, self.usual[way]) for place in places)

    def again(self, way, first):
        return [place for place in self.titles[way] if place < first]

    def bands(self, way, first, last, p):
        found = []
        for place in range(first, last + 1):
            if found and place not in self.breaks[way]:
                together = self.again(way, found[-1][0]) + found[-1] + [place]
                if self.length(way, together) * p <= 100 * self.space[way]:
                    found[-1].append(place)
                    continue
            found.append([place])
        return found

    def used_scale(self):
        if self.fit is None:
            return self.scale
        for p in range(100, 9, -1):
            if all(self.area_fits(area, p) for area in self.areas):
                return p
        return 10

    def area_fits(self, area, p):
        wide, tall = self.fit
        rows = len(self.bands(0, area[0], area[2], p))
        columns = len(self.bands(1, area[1], area[3], p))
        return (tall == 0 or rows <= tall) and (wide == 0 or columns <= wide)

    def pages(self):
        """Each page as its area, its rows and its columns; and for each area how many bands it has."""
        p = self.used_scale()
        found = []
        counts = []
        for number, area in enumerate(self.areas):
            rows = self.bands(0, area[0], area[2], p)
            columns = self.bands(1, area[1], area[3], p)
            counts.extend([len(rows), len(columns)])
            if self.over:
                found.extend((number, down, across) for down in rows for across in columns)
            else:
                found.extend((number, down, across) for across in columns for down in rows)
        return p, found, counts

    def answer_pages(self):
        p, found, counts = self.pages()
        return [len(found), p] + counts

    def answer_page(self, n):
        p, found, counts = self.pages()
        if n >= len(found):
            return [-6]
        number, rows, columns = found[n]
        rows_again = self.again(0, rows[0])
        columns_again = self.again(1, columns[0])
        return [
            0, number, rows[0], rows[-1], columns[0], columns[-1], len(rows_again), len(columns_again),
            self.length(1, columns_again + columns) * p, self.length(0, rows_again + rows) * p,
        ]

    def answer_where(self, row, column):
        p, found, counts = self.pages()
        told = [0]
        for n, (number, rows, columns) in enumerate(found):
            if row in rows and column in columns:
                told[0] += 1
                told.extend([n, self.stands(1, columns, column, p), self.stands(0, rows, row, p)])
        return told

    def stands(self, way, band, place, p):
        at = 100 * self.edge[way]
        on_page = self.again(way, band[0]) + band
        left_over = 100 * self.space[way] - self.length(way, on_page) * p
        if self.middle[way] and left_over >= 0:
            at += left_over // 2
        ahead = len(self.again(way, band[0])) + band.index(place)
        return at + self.length(way, on_page[:ahead]) * p

    def answer_texts(self, n):
        p, found, counts = self.pages()
        if n >= len(found):
            return [-6]
        told = [0]
        for text in self.texts:
            for part in self.written(text, {"P": self.first + n, "N": len(found), "A": found[n][0] + 1}):
                told.extend([len(part)] + list(part.encode("ascii")))
        return told

    def written(self, text, numbers):
        """Text is a list of pieces, each a sign with & or one byte by itself."""
        parts = {"L": "", "C": "", "R": ""}
        part = "C"
        for piece in text:
            if piece[1:] in parts:
                part = piece[1:]
            elif piece[1:] in numbers:
                parts[part] += str(numbers[piece[1:]])
            else:
                parts[part] += piece[0]
        return [parts["L"], parts["C"], parts["R"]]
