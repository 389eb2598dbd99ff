"""Promises 11 to 14: first, last, differ and count."""

import unittest

from tests.lists import (ROW, WIDTHS, WORD, WRONG_CHOICES, WRONG_NUMBERS, WRONG_VALUES, WRONG_WIDTHS, answer, count,
                         differ, first, last)

V = 0x8877665544332211
LOW_FIRST = [0x11, 0x22, 0x33, 0x44, 0x55, 0x66, 0x77, 0x88]


def row_of(width, likeness):
    """Elements that are V's lowest bytes where a letter is v; else they differ in one byte, the first or the last."""
    row = []
    for letter in likeness:
        element = LOW_FIRST[:width]
        if letter == "f":
            element[0] ^= 128
        if letter == "l":
            element[-1] ^= 1
        row += element
    return row


class FirstAndLast(unittest.TestCase):
    def check(self, likeness, alike, first_found, last_found):
        for width in WIDTHS:
            for before in (0, 3):
                data = [9] * before + row_of(width, likeness) + LOW_FIRST
                n = len(likeness)
                self.assertEqual(answer(data, first(before, n, width, V, alike)), [0, first_found], (likeness, width))
                self.assertEqual(answer(data, last(before, n, width, V, alike)), [0, last_found], (likeness, width))

    def test_alike(self):
        self.check("vfl", 1, 0, 0)
        self.check("fvl", 1, 1, 1)
        self.check("flv", 1, 2, 2)
        self.check("vflv", 1, 0, 3)
        self.check("fvvlvf", 1, 1, 4)
        self.check("vvv", 1, 0, 2)
        self.check("v", 1, 0, 0)

    def test_unlike(self):
        self.check("fvv", 0, 0, 0)
        self.check("vlv", 0, 1, 1)
        self.check("vvf", 0, 2, 2)
        self.check("lvvl", 0, 0, 3)
        self.check("vfvlvv", 0, 1, 3)
        self.check("flf", 0, 0, 2)
        self.check("f", 0, 0, 0)

    def test_none_is_found(self):
        self.check("flfl", 1, 4, 4)
        self.check("vvvv", 0, 4, 4)
        self.check("l", 1, 1, 1)
        self.check("v", 0, 1, 1)

    def test_an_empty_row(self):
        self.check("", 1, 0, 0)
        self.check("", 0, 0, 0)
        for call in (first, last):
            for alike in (0, 1):
                self.assertEqual(answer([], call(0, 0, 8, 0, alike)), [0, 0])
                self.assertEqual(answer(ROW, call(24, 0, 1, 0, alike)), [0, 0])

    def test_what_stands_between_elements_is_not_found(self):
        data = [1, 2, 3, 2, 3, 1]
        self.assertEqual(answer(data, first(0, 3, 2, 0x0302, 1)), [0, 3])
        self.assertEqual(answer(data, last(0, 3, 2, 0x0302, 1)), [0, 3])
        self.assertEqual(answer(data, first(1, 2, 2, 0x0302, 1)), [0, 0])
        self.assertEqual(answer(data, last(1, 2, 2, 0x0302, 1)), [0, 1])

    def test_values(self):
        for width in WIDTHS:
            data = [255] * width + [0] * width + [255] * width
            for call, found in ((first, 0), (last, 2)):
                self.assertEqual(answer(data, call(0, 3, width, WORD - 1, 1)), [0, found])
                self.assertEqual(answer(data, call(0, 3, width, 0, 1)), [0, 1])
                self.assertEqual(answer(data, call(0, 3, width, 0, 0)), [0, found])
                self.assertEqual(answer(data, call(0, 3, width, WORD - 1, 0)), [0, 1])
                for wrong in WRONG_VALUES:
                    self.assertEqual(answer(data, call(0, 3, width, wrong, 1)), [-1])
                    self.assertEqual(answer(data, call(0, 0, width, wrong, 0)), [-1])

    def test_a_value_above_the_width(self):
        for call in (first, last):
            self.assertEqual(answer([5, 6, 7], call(0, 3, 1, 256 + 6, 1)), [0, 1])
            self.assertEqual(answer([5, 6, 7, 8], call(0, 2, 2, 7 * 65536 + 0x0807, 1)), [0, 1])
            self.assertEqual(answer([5, 6, 7, 8] * 2, call(1, 1, 4, 2 ** 32 + 0x05080706, 1)), [0, 0])
            self.assertEqual(answer([6, 6, 6], call(0, 3, 1, 256 + 6, 0)), [0, 3])

    def test_just_fits_or_is_too_long(self):
        for call in (first, last):
            for width in WIDTHS:
                for n in (0, 1, 2, 24 // width):
                    at = 24 - n * width
                    self.assertEqual(answer(ROW, call(at, n, width, 0, 1)), [0, n])
                    self.assertEqual(answer(ROW, call(at + 1, n, width, 0, 1)), [-1])
                    self.assertEqual(answer(ROW, call(at, n + 1, width, 0, 1)), [-1])

    def test_wrong_arguments(self):
        for call in (first, last):
            for n in (0, 1):
                for wrong in WRONG_NUMBERS:
                    self.assertEqual(answer(ROW, call(wrong, n, 1, 100, 1)), [-1])
                    self.assertEqual(answer(ROW, call(n, wrong, 1, 100, 1)), [-1])
                for wrong in WRONG_WIDTHS:
                    self.assertEqual(answer(ROW, call(0, n, wrong, 100, 1)), [-1])
                for wrong in WRONG_CHOICES:
                    self.assertEqual(answer(ROW, call(0, n, 1, 100, wrong)), [-1])


class Differ(unittest.TestCase):
    def check(self, one, other, found_up, found_down):
        n = len(one)
        for width in WIDTHS:
            data = [7] + row_of(width, one) + [8] + row_of(width, other)
            x = 1
            y = 2 + n * width
            for left, right in ((x, y), (y, x)):
                self.assertEqual(answer(data, differ(left, right, n, width, 0)), [0, found_up], (one, other, width))
                self.assertEqual(answer(data, differ(left, right, n, width, 1)), [0, found_down], (one, other, width))

    def test_some_differ(self):
        self.check("fvvv", "vvvv", 0, 0)
        self.check("vvlv", "vvvv", 2, 2)
        self.check("vvvl", "vvvv", 3, 3)
        self.check("fvvl", "vvvv", 0, 3)
        self.check("vfvlv", "vvvvv", 1, 3)
        self.check("fff", "vvv", 0, 2)
        self.check("f", "v", 0, 0)

    def test_none_differs(self):
        self.check("vfvl", "vfvl", 4, 4)
        self.check("v", "v", 1, 1)
        self.check("", "", 0, 0)

    def test_one_and_the_same_row(self):
        for width in WIDTHS:
            for n in (0, 1, 2):
                for down in (0, 1):
                    self.assertEqual(answer(ROW, differ(3, 3, n, width, down)), [0, n])

    def test_rows_that_overlap(self):
        data = [1, 1, 1, 2, 2, 2, 3, 3]
        self.assertEqual(answer(data, differ(0, 1, 7, 1, 0)), [0, 2])
        self.assertEqual(answer(data, differ(0, 1, 7, 1, 1)), [0, 5])
        self.assertEqual(answer(data, differ(1, 0, 7, 1, 1)), [0, 5])
        self.assertEqual(answer(data, differ(0, 1, 3, 2, 0)), [0, 1])
        self.assertEqual(answer(data, differ(0, 1, 3, 2, 1)), [0, 2])
        for width in WIDTHS:
            for down in (0, 1):
                self.assertEqual(answer([1, 2] * 12, differ(0, 2, 22 // width, width, down)), [0, 22 // width])

    def test_an_empty_row(self):
        for width in WIDTHS:
            for down in (0, 1):
                self.assertEqual(answer(ROW, differ(0, 24, 0, width, down)), [0, 0])
                self.assertEqual(answer([], differ(0, 0, 0, width, down)), [0, 0])

    def test_a_refused_row_at_x_alone_and_at_y_alone(self):
        for width in WIDTHS:
            for n in (0, 1, 24 // width):
                end = 24 - n * width
                for down in (0, 1):
                    self.assertEqual(answer(ROW, differ(end, end, n, width, down)), [0, n])
                    self.assertEqual(answer(ROW, differ(end + 1, end, n, width, down)), [-1])
                    self.assertEqual(answer(ROW, differ(end, end + 1, n, width, down)), [-1])
        for wrong in WRONG_NUMBERS:
            for n in (0, 1):
                self.assertEqual(answer(ROW, differ(wrong, 0, n, 1, 0)), [-1])
                self.assertEqual(answer(ROW, differ(0, wrong, n, 1, 0)), [-1])

    def test_other_wrong_arguments(self):
        for wrong in WRONG_NUMBERS:
            self.assertEqual(answer(ROW, differ(0, 1, wrong, 1, 0)), [-1])
        for n in (0, 1):
            for wrong in WRONG_WIDTHS:
                self.assertEqual(answer(ROW, differ(0, 1, n, wrong, 0)), [-1])
            for wrong in WRONG_CHOICES:
                self.assertEqual(answer(ROW, differ(0, 1, n, 1, wrong)), [-1])


class Count(unittest.TestCase):
    def check(self, likeness, how_many):
        for width in WIDTHS:
            for before in (0, 5):
                data = LOW_FIRST[:before] + row_of(width, likeness) + LOW_FIRST
                self.assertEqual(answer(data, count(before, len(likeness), width, V)), [0, how_many], likeness)

    def test_none_some_all(self):
        self.check("flfl", 0)
        self.check("vfl", 1)
        self.check("flv", 1)
        self.check("fvvlv", 3)
        self.check("vvvv", 4)
        self.check("", 0)

    def test_what_stands_between_elements_does_not_count(self):
        self.assertEqual(answer([1, 2, 1, 2, 1, 2], count(0, 3, 2, 0x0102)), [0, 0])
        self.assertEqual(answer([1, 2, 1, 2, 1, 2], count(1, 2, 2, 0x0102)), [0, 2])

    def test_values(self):
        for width in WIDTHS:
            data = [255] * width + [0] * width + [255] * width
            self.assertEqual(answer(data, count(0, 3, width, WORD - 1)), [0, 2])
            self.assertEqual(answer(data, count(0, 3, width, 0)), [0, 1])
            for wrong in WRONG_VALUES:
                self.assertEqual(answer(data, count(0, 3, width, wrong)), [-1])
                self.assertEqual(answer(data, count(0, 0, width, wrong)), [-1])

    def test_a_value_above_the_width(self):
        self.assertEqual(answer([5, 6, 6], count(0, 3, 1, 256 + 6)), [0, 2])
        self.assertEqual(answer([5, 6, 5, 6], count(0, 2, 2, 65536 + 0x0605)), [0, 2])
        self.assertEqual(answer([5, 6, 7, 8] * 3, count(0, 3, 4, 2 ** 63 + 0x08070605)), [0, 3])

    def test_the_whole_memory(self):
        self.assertEqual(answer([4] * 256, count(0, 256, 1, 4)), [0, 256])
        self.assertEqual(answer([4] * 256, count(0, 257, 1, 4)), [-1])

    def test_wrong_arguments(self):
        for n in (0, 1):
            for wrong in WRONG_NUMBERS:
                self.assertEqual(answer(ROW, count(wrong, n, 1, 100)), [-1])
                self.assertEqual(answer(ROW, count(n, wrong, 1, 100)), [-1])
            for wrong in WRONG_WIDTHS:
                self.assertEqual(answer(ROW, count(0, n, wrong, 100)), [-1])
        for width in WIDTHS:
            self.assertEqual(answer(ROW, count(24 - width, 1, width, 0)), [0, 0])
            self.assertEqual(answer(ROW, count(25 - width, 1, width, 0)), [-1])


if __name__ == "__main__":
    unittest.main()
