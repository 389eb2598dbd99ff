"""Promises 15 and 16: turn and swap."""

import unittest

from tests.lists import ROW, WIDTHS, WRONG_NUMBERS, WRONG_WIDTHS, after, swap, turn


class Turn(unittest.TestCase):
    def test_the_other_way_round(self):
        data = [1, 2, 3, 4, 5, 6, 7, 8]
        self.assertEqual(after(data, turn(0, 8, 1)), ([0], [8, 7, 6, 5, 4, 3, 2, 1]))
        self.assertEqual(after(data, turn(0, 4, 2)), ([0], [7, 8, 5, 6, 3, 4, 1, 2]))
        self.assertEqual(after(data, turn(0, 2, 4)), ([0], [5, 6, 7, 8, 1, 2, 3, 4]))
        self.assertEqual(after(data, turn(0, 1, 8)), ([0], data))

    def test_odd_rows_in_the_midst(self):
        data = [1, 2, 3, 4, 5, 6, 7, 8]
        self.assertEqual(after(data, turn(2, 5, 1)), ([0], [1, 2, 7, 6, 5, 4, 3, 8]))
        self.assertEqual(after(data, turn(1, 3, 2)), ([0], [1, 6, 7, 4, 5, 2, 3, 8]))

    def test_every_row(self):
        for width in WIDTHS:
            for at in range(25):
                for n in range((24 - at) // width + 1):
                    end = at + n * width
                    parts = [ROW[i:i + width] for i in range(at, end, width)]
                    turned = [byte for part in reversed(parts) for byte in part]
                    self.assertEqual(after(ROW, turn(at, n, width)), ([0], ROW[:at] + turned + ROW[end:]))

    def test_the_whole_memory(self):
        data = list(range(256))
        self.assertEqual(after(data, turn(0, 256, 1)), ([0], data[::-1]))
        self.assertEqual(after(data, turn(0, 257, 1)), ([-1], data))


class Swap(unittest.TestCase):
    def test_bytes_the_other_way_round(self):
        data = [1, 2, 3, 4, 5, 6, 7, 8]
        self.assertEqual(after(data, swap(0, 8, 1)), ([0], data))
        self.assertEqual(after(data, swap(0, 4, 2)), ([0], [2, 1, 4, 3, 6, 5, 8, 7]))
        self.assertEqual(after(data, swap(0, 2, 4)), ([0], [4, 3, 2, 1, 8, 7, 6, 5]))
        self.assertEqual(after(data, swap(0, 1, 8)), ([0], [8, 7, 6, 5, 4, 3, 2, 1]))

    def test_odd_rows_in_the_midst(self):
        data = [1, 2, 3, 4, 5, 6, 7, 8]
        self.assertEqual(after(data, swap(1, 3, 2)), ([0], [1, 3, 2, 5, 4, 7, 6, 8]))
        self.assertEqual(after(data, swap(3, 1, 4)), ([0], [1, 2, 3, 7, 6, 5, 4, 8]))

    def test_every_row(self):
        for width in WIDTHS:
            for at in range(25):
                for n in range((24 - at) // width + 1):
                    end = at + n * width
                    swapped = [byte for i in range(at, end, width) for byte in reversed(ROW[i:i + width])]
                    self.assertEqual(after(ROW, swap(at, n, width)), ([0], ROW[:at] + swapped + ROW[end:]))

    def test_the_whole_memory(self):
        data = list(range(256))
        swapped = [i ^ 7 for i in range(256)]
        self.assertEqual(after(data, swap(0, 32, 8)), ([0], swapped))
        self.assertEqual(after(data, swap(0, 33, 8)), ([-1], data))


class Both(unittest.TestCase):
    def test_none(self):
        for call in (turn, swap):
            for width in WIDTHS:
                self.assertEqual(after([], call(0, 0, width)), ([0], []))
                for at in (0, 7, 24):
                    self.assertEqual(after(ROW, call(at, 0, width)), ([0], ROW))

    def test_too_long(self):
        for call in (turn, swap):
            for width in WIDTHS:
                for n in (0, 1, 2, 24 // width):
                    end = 24 - n * width
                    self.assertEqual(after(ROW, call(end, n, width))[0], [0])
                    self.assertEqual(after(ROW, call(end + 1, n, width)), ([-1], ROW))
                    self.assertEqual(after(ROW, call(end, n + 1, width)), ([-1], ROW))
                self.assertEqual(after([], call(0, 1, width)), ([-1], []))

    def test_wrong_arguments(self):
        for call in (turn, swap):
            for n in (0, 1, 2):
                for wrong in WRONG_NUMBERS:
                    self.assertEqual(after(ROW, call(wrong, n, 2)), ([-1], ROW))
                    self.assertEqual(after(ROW, call(n, wrong, 2)), ([-1], ROW))
                for wrong in WRONG_WIDTHS:
                    self.assertEqual(after(ROW, call(0, n, wrong)), ([-1], ROW))


if __name__ == "__main__":
    unittest.main()
