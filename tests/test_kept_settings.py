"""What a sheet's settings keep: what pages will be made of, and that refusals leave it as it was."""

import unittest

from sheetpages.refusals import OutOfRange, TooMany
from sheetpages.sheet_settings import SheetSettings


def kept(settings):
    """All that is kept, in copies."""
    ways = [
        (list(way.sizes), way.sizes_told, way.edge, way.space, way.titles, dict(way.breaks)) for way in settings.ways
    ]
    return ways, list(settings.areas), settings.scale


def changed():
    """Settings of which none is as at first."""
    settings = SheetSettings()
    for way in settings.ways:
        way.set_size(3, 5, 7)
        way.set_titles([1, 2])
        way.set_breaks([6, 4])
    settings.set_paper(600, 800, 10, 20, 30, 40)
    settings.set_areas([0, 1, 2, 3, 4, 5, 6, 7])
    settings.set_scale(80)
    return settings


class KeptSettings(unittest.TestCase):
    def test_at_first(self):
        rows = ([20] * 4096, 0, 50, 742, None, {})
        columns = ([64] * 256, 0, 50, 495, None, {})
        self.assertEqual(kept(SheetSettings()), ([rows, columns], [], 100))

    def test_begin_makes_all_as_at_first(self):
        settings = changed()
        settings.begin()
        self.assertEqual(kept(settings), kept(SheetSettings()))

    def test_what_was_told_is_kept(self):
        rows = ([20] * 3 + [7] * 3 + [20] * 4090, 1, 30, 730, (1, 2), {4: True, 6: True})
        columns = ([64] * 3 + [7] * 3 + [64] * 250, 1, 10, 570, (1, 2), {4: True, 6: True})
        self.assertEqual(kept(changed()), ([rows, columns], [(0, 1, 2, 3), (4, 5, 6, 7)], 80))

    def test_the_newest_size_counts(self):
        rows = SheetSettings().ways[0]
        rows.set_size(0, 4, 1)
        rows.set_size(1, 3, 2)
        rows.set_size(2, 2, 0)
        self.assertEqual(rows.sizes[:6], [1, 2, 0, 2, 1, 20])

    def test_newer_titles_areas_and_breaks_are_instead_of_those_before(self):
        settings = changed()
        settings.ways[0].set_titles([])
        settings.ways[1].set_titles([0, 0])
        settings.ways[0].set_breaks([9])
        settings.ways[1].set_breaks([])
        settings.set_areas([1, 1, 1, 1])
        self.assertEqual([way.titles for way in settings.ways], [None, (0, 0)])
        self.assertEqual([way.breaks for way in settings.ways], [{9: True}, {}])
        self.assertEqual(settings.areas, [(1, 1, 1, 1)])

    def assert_refused(self, error, settings, change, *told):
        before = kept(settings)
        self.assertRaises(error, change, *told)
        self.assertEqual(kept(settings), before)

    def test_refusals_of_a_sheet_change_nothing(self):
        settings = changed()
        self.assert_refused(OutOfRange, settings, settings.set_paper, 500, 70, 10, 20, 30, 40)
        self.assert_refused(OutOfRange, settings, settings.set_paper, 30, 700, 10, 20, 30, 40)
        self.assert_refused(OutOfRange, settings, settings.set_areas, [1, 1, 1, 1, 0, 0, 4096, 0])
        self.assert_refused(TooMany, settings, settings.set_areas, [1, 1, 1, 1] * 33)
        self.assert_refused(OutOfRange, settings, settings.set_scale, 9)

    def test_refusals_of_a_way_change_nothing(self):
        settings = changed()
        for way in settings.ways:
            self.assert_refused(OutOfRange, settings, way.set_size, 0, 4096, 5)
            self.assert_refused(OutOfRange, settings, way.set_size, 0, 1, 10001)
            self.assert_refused(OutOfRange, settings, way.set_titles, [0, 4096])
            self.assert_refused(OutOfRange, settings, way.set_breaks, [1, 4096])
            self.assert_refused(TooMany, settings, way.set_breaks, [1] * 501)
            for turn in range(199):
                way.set_size(0, 1, 5)
            self.assert_refused(TooMany, settings, way.set_size, 0, 1, 6)
