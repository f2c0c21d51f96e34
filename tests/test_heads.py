"""Promise 7: heads, and what texts answers of them."""

import unittest

from tests.telling import BEGINS, LARGEST, areas, ask, heads, how, said, said_texts, size, texts

ONE_PAGE = areas((0, 0, 0, 0))

MEANT = "LCRPNA&"


class Heads(unittest.TestCase):
    def assert_taken(self, text):
        self.assertEqual(ask(heads(text, ""), heads("", text), heads(text, text)), [said(0)] * 3, text)

    def assert_refused(self, text):
        told = ask(heads(text, ""), heads("", text), heads(text, text), heads(text, "&"), heads("&", text))
        self.assertEqual(told, [said(-3)] * 5, text)

    def test_ordinary_texts(self):
        self.assert_taken("")
        self.assert_taken("Sheet")
        self.assert_taken("&LSheet&CA && B&R&P of &N")

    def test_each_byte_behind_the_sign(self):
        for byte in range(256):
            text = [65, 38, byte, 66]
            if byte in MEANT.encode("ascii"):
                self.assert_taken(text)
            else:
                self.assert_refused(text)

    def test_each_byte_by_itself(self):
        for byte in range(256):
            if byte != 38:
                self.assert_taken([byte, byte])

    def test_small_letters(self):
        for letter in "lcrpna":
            self.assert_refused("&" + letter)

    def test_nothing_behind_the_sign(self):
        for text in ("&", "A&", "&&&", "&P&", "&&&&&"):
            self.assert_refused(text)
        for text in ("&&", "&&&&", "&&P", "&&&P"):
            self.assert_taken(text)

    def test_a_wrong_sign_far_behind(self):
        self.assert_refused("&LSheet&C&P of &N&R&&&x")
        self.assert_refused("&x&P")

    def test_255_and_256_bytes(self):
        self.assert_taken("a" * 255)
        self.assert_refused("a" * 256)
        self.assert_refused("a" * 300)
        self.assert_taken("&P" * 127 + "a")
        self.assert_refused("&P" * 128)
        self.assert_refused("a" * 254 + "&")

    def test_each_text_is_measured_by_itself(self):
        self.assertEqual(ask(heads("a" * 255, "b" * 255)), [said(0)])
        self.assertEqual(ask(heads("a" * 255, "b" * 256)), [said(-3)])
        self.assertEqual(ask(heads("a" * 256, "b" * 255)), [said(-3)])

    def test_refusals_change_nothing(self):
        before = [ONE_PAGE, heads("head", "foot")]
        expected = said_texts("", "head", "", "", "foot", "")
        refused = [("new", "&x"), ("&x", "new"), ("new", "&"), ("&", "new"), ("a" * 256, "new"), ("new", "a" * 256)]
        for head, foot in refused:
            self.assertEqual(ask(*before, heads(head, foot), texts(0))[-2:], [said(-3), expected])

    def test_the_newest_counts(self):
        told = ask(ONE_PAGE, heads("a", "b"), heads("", "c"), texts(0))
        self.assertEqual(told[-1], said_texts("", "", "", "", "c", ""))

    def test_begins_takes_them_back(self):
        told = ask(heads("a", "b"), BEGINS, ONE_PAGE, texts(0))
        self.assertEqual(told[-1], said_texts("", "", "", "", "", ""))


class Texts(unittest.TestCase):
    def assert_parts(self, text, left, middle, right):
        """A text makes these parts, as head and as foot."""
        none = ("", "", "")
        parts = (left, middle, right)
        told = ask(ONE_PAGE, heads(text, ""), texts(0), heads("", text), texts(0), heads(text, text), texts(0))
        self.assertEqual(told[2], said_texts(*parts, *none), text)
        self.assertEqual(told[4], said_texts(*none, *parts), text)
        self.assertEqual(told[6], said_texts(*parts, *parts), text)

    def test_none(self):
        self.assertEqual(ask(ONE_PAGE, texts(0))[-1], said_texts("", "", "", "", "", ""))

    def test_what_is_answered(self):
        told = ask(ONE_PAGE, heads("&Lab&RP", "&Cx"), texts(0))
        self.assertEqual(told[-1], said(0, 2, 97, 98, 0, 1, 80, 0, 1, 120, 0))

    def test_into_the_middle_at_first(self):
        self.assert_parts("abc", "", "abc", "")

    def test_each_part(self):
        self.assert_parts("&Labc", "abc", "", "")
        self.assert_parts("&Cabc", "", "abc", "")
        self.assert_parts("&Rabc", "", "", "abc")
        self.assert_parts("m&Ll&Rr", "l", "m", "r")

    def test_parts_gather(self):
        self.assert_parts("a&Lb&Cc&Rd&Ce&Lf&Rg&Lh", "bfh", "ace", "dg")
        self.assert_parts("a&Cb", "", "ab", "")
        self.assert_parts("&L&R&C", "", "", "")

    def test_the_sign_itself(self):
        self.assert_parts("&&", "", "&", "")
        self.assert_parts("&L&&L&&&&R", "&L&&R", "", "")
        self.assert_parts("a&&b&R&&", "", "a&b", "&")

    def test_letters_without_the_sign(self):
        self.assert_parts("LCRPNA", "", "LCRPNA", "")

    def test_numbers(self):
        self.assert_parts("&P", "", "1", "")
        self.assert_parts("&N", "", "1", "")
        self.assert_parts("&A", "", "1", "")
        self.assert_parts("&LPage &P/&N&R&A&A", "Page 1/1", "", "11")

    def test_every_byte(self):
        told = [byte for byte in range(256) if byte != 38]
        self.assert_parts(told[:200], "", told[:200], "")
        self.assert_parts(told[100:], "", told[100:], "")

    def test_the_longest_text(self):
        self.assert_parts("&L" + "a" * 253, "a" * 253, "", "")

    def test_a_part_may_be_longer_than_a_text(self):
        told = ask(ONE_PAGE, how(0, 0, 0, -1000000), heads("&P" * 127, ""), texts(0))
        self.assertEqual(told[-1], said_texts("", "-1000000" * 127, "", "", "", ""))

    def test_page_area_and_how_many_pages(self):
        # Rows of 742 take a page each: 12 pages, then 1, then 2.
        calls = [size(0, 0, 99, 742), areas((0, 0, 11, 0), (5, 0, 5, 0), (4, 0, 5, 0)), heads("&P/&N", "&R&A")]
        numbers = (0, 8, 9, 11, 12, 13, 14)
        told = ask(*calls, *[texts(n) for n in numbers])[3:]
        pages = ["1/15", "9/15", "10/15", "12/15", "13/15", "14/15", "15/15"]
        area = ["1", "1", "1", "1", "2", "3", "3"]
        self.assertEqual(told, [said_texts("", pages[turn], "", "", "", area[turn]) for turn in range(len(numbers))])

    def test_the_first_number(self):
        calls = [size(0, 0, 99, 742), areas((0, 0, 11, 0)), heads("&P", "")]
        told = ask(*calls, how(0, 0, 0, -3), *[texts(n) for n in range(6)])[4:]
        pages = ["-3", "-2", "-1", "0", "1", "2"]
        self.assertEqual(told, [said_texts("", number, "", "", "", "") for number in pages])
        told = ask(*calls, how(1, 0, 0, 995), texts(4), texts(5), how(1, 0, 0, -1000000), texts(0), texts(11))
        self.assertEqual([told[place] for place in (4, 5, 7, 8)], [
            said_texts("", number, "", "", "", "") for number in ("999", "1000", "-1000000", "-999989")
        ])

    def test_the_32nd_area(self):
        told = ask(areas(*[(0, 0, 0, 0)] * 32), heads("&A of &N", ""), texts(31))
        self.assertEqual(told[-1], said_texts("", "32 of 32", "", "", "", ""))

    def test_texts_are_told_ahead_of_areas(self):
        told = ask(heads("&N", "&A"), how(0, 0, 0, 5), areas((0, 0, 0, 0), (0, 0, 0, 0)), texts(1))
        self.assertEqual(told[-1], said_texts("", "2", "", "", "2", ""))

    def test_the_last_page_and_the_one_behind_it(self):
        calls = [areas((0, 0, 40, 0), (0, 0, 0, 0)), heads("&A", "")]
        told = ask(*calls, texts(2), texts(3), texts(LARGEST))
        self.assertEqual(told[2:], [said_texts("", "2", "", "", "", ""), said(-6), said(-6)])

    def test_no_areas(self):
        self.assertEqual(ask(heads("a", "b"), texts(0)), [said(0), said(-6)])
        self.assertEqual(ask(how(0, 0, 0, 0), texts(0), how(0, 0, 0, -1), texts(1)), [said(0), said(-6)] * 2)
