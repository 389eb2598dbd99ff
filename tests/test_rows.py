"""Promises 8 and 9: copy and fill."""

import unittest

from tests.lists import (ROW, WIDTHS, WORD, WRONG_CHOICES, WRONG_NUMBERS, WRONG_VALUES, WRONG_WIDTHS, after, copy,
                         fill)


class Copy(unittest.TestCase):
    def test_apart(self):
        for width in WIDTHS:
            for down in (0, 1):
                given = after(ROW, copy(13, 1, 1, width, down))
                self.assertEqual(given, ([0], ROW[:13] + ROW[1:1 + width] + ROW[13 + width:]))
        given = after(ROW, copy(0, 12, 3, 4, 0))
        self.assertEqual(given, ([0], ROW[12:] + ROW[12:]))

    def test_overlap_repeats_what_it_runs_into(self):
        self.assertEqual(after([1, 2, 3, 4, 5, 6], copy(2, 0, 4, 1, 0)), ([0], [1, 2, 1, 2, 1, 2]))
        self.assertEqual(after([1, 2, 3, 4, 5, 6], copy(0, 2, 4, 1, 1)), ([0], [5, 6, 5, 6, 5, 6]))
        self.assertEqual(after([1, 2, 3, 4, 5, 6], copy(1, 0, 5, 1, 0)), ([0], [1] * 6))

    def test_overlap_the_safe_way(self):
        self.assertEqual(after([1, 2, 3, 4, 5, 6], copy(2, 0, 4, 1, 1)), ([0], [1, 2, 1, 2, 3, 4]))
        self.assertEqual(after([1, 2, 3, 4, 5, 6], copy(0, 2, 4, 1, 0)), ([0], [3, 4, 5, 6, 5, 6]))

    def test_overlap_within_elements(self):
        self.assertEqual(after([1, 2, 3, 4, 5], copy(1, 0, 2, 2, 0)), ([0], [1, 1, 2, 2, 4]))
        self.assertEqual(after([1, 2, 3, 4, 5], copy(1, 0, 2, 2, 1)), ([0], [1, 1, 2, 3, 4]))
        self.assertEqual(after([1, 2, 3, 4, 5], copy(0, 1, 2, 2, 1)), ([0], [2, 4, 4, 5, 5]))

    def test_all_overlaps(self):
        for width in WIDTHS:
            for dst in range(9):
                for src in range(9):
                    for down in (0, 1):
                        n = 15 // width
                        expected = list(ROW)
                        for i in sorted(range(n), reverse=down == 1):
                            element = expected[src + i * width:src + i * width + width]
                            expected[dst + i * width:dst + i * width + width] = element
                        given = after(ROW, copy(dst, src, n, width, down))
                        self.assertEqual(given, ([0], expected), (dst, src, n, width, down))

    def test_none(self):
        for width in WIDTHS:
            for down in (0, 1):
                for place in (0, 5, 24):
                    self.assertEqual(after(ROW, copy(place, 24 - place, 0, width, down)), ([0], ROW))
        self.assertEqual(after([], copy(0, 0, 0, 8, 1)), ([0], []))

    def test_just_fits_or_is_too_long(self):
        for width in WIDTHS:
            for n in (0, 1, 12 // width):
                last = 24 - n * width
                for down in (0, 1):
                    given = after(ROW, copy(last, 0, n, width, down))
                    self.assertEqual(given, ([0], ROW[:last] + ROW[:24 - last]))
                    given = after(ROW, copy(0, last, n, width, down))
                    self.assertEqual(given, ([0], ROW[last:] + ROW[24 - last:]))
                    self.assertEqual(after(ROW, copy(last + 1, 0, n, width, down)), ([-1], ROW))
                    self.assertEqual(after(ROW, copy(0, last + 1, n, width, down)), ([-1], ROW))
        self.assertEqual(after([5] * 256, copy(0, 0, 32, 8, 0)), ([0], [5] * 256))
        self.assertEqual(after([5] * 256, copy(0, 0, 33, 8, 0)), ([-1], [5] * 256))
        self.assertEqual(after([], copy(0, 0, 1, 1, 0)), ([-1], []))

    def test_wrong_numbers(self):
        for wrong in WRONG_NUMBERS:
            for call in (copy(wrong, 0, 1, 1, 0), copy(0, wrong, 1, 1, 0), copy(wrong, 0, 0, 1, 0),
                         copy(0, wrong, 0, 8, 0), copy(0, 0, wrong, 1, 0), copy(0, 0, wrong, 8, 1)):
                self.assertEqual(after(ROW, call), ([-1], ROW), call)

    def test_wrong_widths(self):
        for wrong in WRONG_WIDTHS:
            for n in (0, 1):
                self.assertEqual(after(ROW, copy(0, 0, n, wrong, 0)), ([-1], ROW))

    def test_wrong_down(self):
        for wrong in WRONG_CHOICES:
            for n in (0, 1):
                self.assertEqual(after(ROW, copy(0, 1, n, 1, wrong)), ([-1], ROW))


class Fill(unittest.TestCase):
    def test_the_lowest_bytes(self):
        v = 0x8877665544332211
        low_first = [0x11, 0x22, 0x33, 0x44, 0x55, 0x66, 0x77, 0x88]
        for width in WIDTHS:
            for n in (0, 1, 2):
                for dst in (0, 3, 24 - n * width):
                    given = after(ROW, fill(dst, n, width, v))
                    expected = ROW[:dst] + low_first[:width] * n + ROW[dst + n * width:]
                    self.assertEqual(given, ([0], expected))

    def test_values(self):
        for width in WIDTHS:
            self.assertEqual(after(ROW, fill(4, 2, width, 0)), ([0], ROW[:4] + [0] * 2 * width + ROW[4 + 2 * width:]))
            given = after(ROW, fill(4, 2, width, WORD - 1))
            self.assertEqual(given, ([0], ROW[:4] + [255] * 2 * width + ROW[4 + 2 * width:]))
            for wrong in WRONG_VALUES:
                self.assertEqual(after(ROW, fill(4, 2, width, wrong)), ([-1], ROW))
                self.assertEqual(after(ROW, fill(4, 0, width, wrong)), ([-1], ROW))

    def test_just_fits_or_is_too_long(self):
        self.assertEqual(after([1] * 256, fill(0, 256, 1, 7)), ([0], [7] * 256))
        self.assertEqual(after([1] * 256, fill(0, 257, 1, 7)), ([-1], [1] * 256))
        for width in WIDTHS:
            for n in (0, 1, 2):
                last = 24 - n * width
                self.assertEqual(after(ROW, fill(last, n, width, 0)), ([0], ROW[:last] + [0] * (24 - last)))
                self.assertEqual(after(ROW, fill(last + 1, n, width, 0)), ([-1], ROW))
        self.assertEqual(after([], fill(0, 0, 8, 1)), ([0], []))
        self.assertEqual(after([], fill(0, 1, 1, 1)), ([-1], []))

    def test_wrong_numbers(self):
        for wrong in WRONG_NUMBERS:
            for call in (fill(wrong, 1, 1, 0), fill(wrong, 0, 8, 0), fill(0, wrong, 1, 0), fill(0, wrong, 8, 0)):
                self.assertEqual(after(ROW, call), ([-1], ROW), call)

    def test_a_place_below_0_that_would_end_in_memory(self):
        self.assertEqual(after(ROW, fill(-1, 2, 1, 0)), ([-1], ROW))
        self.assertEqual(after(ROW, fill(24, -1, 1, 0)), ([-1], ROW))
        self.assertEqual(after(ROW, fill(26, -1, 2, 0)), ([-1], ROW))

    def test_wrong_widths(self):
        for wrong in WRONG_WIDTHS:
            for n in (0, 1):
                self.assertEqual(after(ROW, fill(0, n, wrong, 0)), ([-1], ROW))


if __name__ == "__main__":
    unittest.main()
