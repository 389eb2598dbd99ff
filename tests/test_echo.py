"""Promise 10: echo."""

import unittest

from tests.lists import HUGE, ROW, WORD, WRONG_NUMBERS, after, echo


class Echo(unittest.TestCase):
    def test_period_1_repeats_a_byte(self):
        self.assertEqual(after([1, 2, 3, 4, 5, 6], echo(2, 1, 3)), ([0], [1, 2, 2, 2, 2, 6]))
        self.assertEqual(after([1, 2, 3, 4, 5, 6], echo(1, 1, 5)), ([0], [1] * 6))

    def test_a_period_of_several_bytes(self):
        self.assertEqual(after([1, 2, 3, 4, 5, 6, 7, 8], echo(3, 2, 5)), ([0], [1, 2, 3, 2, 3, 2, 3, 2]))
        self.assertEqual(after([1, 2, 3, 4, 5, 6, 7, 8], echo(4, 3, 3)), ([0], [1, 2, 3, 4, 2, 3, 4, 8]))
        self.assertEqual(after([1, 2, 3, 4, 5, 6, 7, 8], echo(4, 3, 1)), ([0], [1, 2, 3, 4, 2, 6, 7, 8]))

    def test_a_period_as_long_as_what_is_before(self):
        self.assertEqual(after([1, 2, 3, 4, 5, 6, 7], echo(3, 3, 4)), ([0], [1, 2, 3, 1, 2, 3, 1]))
        self.assertEqual(after([1, 2, 3, 4, 5, 6, 7], echo(6, 6, 1)), ([0], [1, 2, 3, 4, 5, 6, 1]))

    def test_the_whole_memory(self):
        self.assertEqual(after(list(range(256)), echo(7, 7, 249)), ([0], [i % 7 for i in range(256)]))
        self.assertEqual(after(list(range(256)), echo(7, 7, 250)), ([-1], list(range(256))))

    def test_all_of_a_small_memory(self):
        data = list(range(40, 48))
        for at in range(10):
            for period in range(-1, 11):
                for n in range(-1, 10):
                    given, left = after(data, echo(at, period, n))
                    if not 1 <= period <= at or n < 0 or at + n > 8:
                        self.assertEqual((given, left), ([-1], data), (at, period, n))
                        continue
                    self.assertEqual(given, [0])
                    self.assertEqual(left[:at] + left[at + n:], data[:at] + data[at + n:])
                    self.assertEqual(left[at:at + n], [data[at - period + i % period] for i in range(n)])

    def test_none(self):
        for at in (1, 5, 24):
            for period in (1, at):
                self.assertEqual(after(ROW, echo(at, period, 0)), ([0], ROW))

    def test_wrong_periods(self):
        for at in (1, 5, 24):
            for n in (0, 1):
                for wrong in (0, -1, at + 1, -at, -WORD, -2 * WORD) + HUGE:
                    self.assertEqual(after(ROW, echo(at, wrong, n)), ([-1], ROW))

    def test_nothing_is_before_place_0(self):
        for period in (-1, 0, 1):
            for n in (0, 1):
                self.assertEqual(after(ROW, echo(0, period, n)), ([-1], ROW))
                self.assertEqual(after([], echo(0, period, n)), ([-1], []))

    def test_just_fits_or_is_too_long(self):
        for at in (1, 12, 23, 24):
            self.assertEqual(after(ROW, echo(at, 1, 24 - at)), ([0], ROW[:at] + [ROW[at - 1]] * (24 - at)))
            self.assertEqual(after(ROW, echo(at, 1, 25 - at)), ([-1], ROW))

    def test_wrong_numbers(self):
        for wrong in WRONG_NUMBERS:
            for call in (echo(wrong, 1, 0), echo(wrong, 1, 1), echo(wrong, -1, 1), echo(wrong, wrong, 1),
                         echo(1, 1, wrong)):
                self.assertEqual(after(ROW, call), ([-1], ROW), call)
        self.assertEqual(after(ROW, echo(25, 1, -1)), ([-1], ROW))


if __name__ == "__main__":
    unittest.main()
