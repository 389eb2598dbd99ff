"""Promise 18: pack."""

import itertools
import random
import unittest

from tests.lists import HUGE, ROW, WORD, answer, ask, first_of_fewest, pack, unpack


def packed(data):
    given = answer(ROW, pack(data))
    assert given[0] == 0, given
    return given[1:]


def size_then_bytes(text):
    return len(text), text


def every_packed_text(letters, most):
    """Each packed text that makes at most so many bytes, all of them of these letters, with what it makes."""
    found = [((), ())]
    # What is found is walked while it grows: each text is followed by each command that still fits.
    for text, made in found:
        left = most - len(made)
        for n in range(1, left + 1):
            for part in itertools.product(letters, repeat=n):
                found.append((text + (n - 1,) + part, made + part))
        for n in range(3, left + 1):
            for letter in letters:
                found.append((text + (n + 125, letter), made + (letter,) * n))
            for p in range(1, len(made) + 1):
                echo = (made[-p:] * n)[:n]
                found.append((text + (n + 189, p, 0), made + echo))
    return found


class ByHand(unittest.TestCase):
    def test_few_bytes(self):
        self.assertEqual(packed([]), [])
        self.assertEqual(packed([0]), [0, 0])
        self.assertEqual(packed([255]), [0, 255])
        self.assertEqual(packed([5, 5]), [1, 5, 5])
        self.assertEqual(packed([5, 6, 7]), [2, 5, 6, 7])

    def test_runs(self):
        self.assertEqual(packed([5] * 3), [128, 5])
        self.assertEqual(packed([5] * 4), [129, 5])
        self.assertEqual(packed([0] * 64), [189, 0])
        self.assertEqual(packed([5] * 32 + [6] * 32), [157, 5, 157, 6])
        self.assertEqual(packed([5] * 63 + [6]), [188, 5, 0, 6])

    def test_echoes(self):
        self.assertEqual(packed([1, 2, 3, 4] * 2), [3, 1, 2, 3, 4, 193, 4, 0])
        self.assertEqual(packed([1, 2, 3, 4, 5, 9, 1, 2, 3, 4, 5]), [5, 1, 2, 3, 4, 5, 9, 194, 6, 0])
        half = list(range(32))
        self.assertEqual(packed(half + half), [31] + half + [221, 32, 0])

    def test_echoes_that_run_into_their_own(self):
        self.assertEqual(packed([1, 2] * 4), [1, 1, 2, 195, 2, 0])
        self.assertEqual(packed([1, 2] * 32), [1, 1, 2, 251, 2, 0])
        self.assertEqual(packed([1, 2, 3] * 21 + [1]), [2, 1, 2, 3, 250, 3, 0])

    def test_nothing_repeats(self):
        self.assertEqual(packed(list(range(64))), [63] + list(range(64)))
        self.assertEqual(packed([1, 1, 2, 2, 1, 1]), [5, 1, 1, 2, 2, 1, 1])

    def test_an_echo_no_shorter_than_the_bytes(self):
        # Alike in size: the bytes in one command, or four of them and an echo.
        self.assertEqual(packed([1, 2, 3, 9, 1, 2, 3]), [3, 1, 2, 3, 9, 192, 4, 0])

    def test_a_run_between_others(self):
        # Alike in size: the bytes in one command, or the run in one of its own.
        self.assertEqual(packed([2, 1, 1, 1, 3]), [0, 2, 128, 1, 0, 3])

    def test_the_nearest_of_several_echoes(self):
        self.assertEqual(packed([1, 2, 3, 4, 9, 1, 2, 3, 4, 8, 1, 2, 3, 4]),
                         [4, 1, 2, 3, 4, 9, 193, 5, 0, 0, 8, 193, 5, 0])

    def test_an_echo_that_may_end_at_several_places(self):
        # The echo may take none, one or two of the fours that the run takes else: alike in size.
        self.assertEqual(packed([1, 2, 3, 4, 4, 1, 2, 3, 4, 4, 4, 4, 4]), [4, 1, 2, 3, 4, 4, 192, 5, 0, 130, 4])

    def test_the_longest_echo_is_not_always_best(self):
        # An echo of all five would leave two fours, which are too few for a run.
        self.assertEqual(packed([1, 2, 3, 4, 4, 1, 2, 3, 4, 4, 4, 4]), [4, 1, 2, 3, 4, 4, 192, 5, 0, 129, 4])


class Refused(unittest.TestCase):
    def test_how_many_bytes(self):
        self.assertEqual(answer(ROW, pack([7] * 64)), [0, 189, 7])
        for how_many in (65, 66, 67, 128, 129, 200):
            self.assertEqual(answer(ROW, pack([7] * how_many)), [-1])

    def test_bytes(self):
        for wrong in (-1, 256, 257, -256, -WORD, -2 * WORD) + HUGE:
            for data in ([wrong], [wrong] * 3, [1, 2, wrong], [wrong, 1, 2], [1] * 63 + [wrong]):
                self.assertEqual(answer(ROW, pack(data)), [-1])

    def test_memory_is_not_needed(self):
        self.assertEqual(ask(pack([3, 4]), [7]), [[0, 1, 3, 4], [0]])


class Searched(unittest.TestCase):
    def check_every_text(self, letters, most):
        best = {}
        for text, made in every_packed_text(letters, most):
            best[made] = min(best.get(made, text), text, key=size_then_bytes)
        self.assertEqual(len(best), sum(len(letters) ** n for n in range(most + 1)))
        for made, text in best.items():
            self.assertEqual(packed(list(made)), list(text), made)

    def test_short_texts_of_two_letters(self):
        self.check_every_text((0, 1), 9)

    def test_short_texts_of_three_letters(self):
        self.check_every_text((130, 1, 194), 6)

    def test_every_row_of_bytes(self):
        # The plainest search: all rows of up to five of these bytes, in order, whether they are packed texts or not.
        signs = (0, 1, 2, 3, 128, 129, 130, 131, 192, 193, 194)
        best = {}
        for size in range(6):
            rows = list(itertools.product(signs, repeat=size))
            for begin in range(0, len(rows), 100):
                calls = [unpack(6, row) for row in rows[begin:begin + 100]]
                for row, given in zip(rows[begin:begin + 100], ask(*calls)):
                    if given[0] == 0:
                        best.setdefault(tuple(given[1:]), list(row))
        for size in range(7):
            for data in itertools.product((0, 1, 2), repeat=size):
                text = packed(list(data))
                if data in best:
                    self.assertEqual(text, best[data], data)
                else:
                    self.assertGreater(len(text), 5, data)

    def texts(self):
        chance = random.Random(18)
        for size in range(6, 65):
            letters = chance.choice((2, 3, 4, 256))
            yield [chance.randrange(letters) for i in range(size)]
            text = [chance.randrange(256) for i in range(3)]
            while len(text) < size:
                p = chance.randrange(1, len(text) + 1)
                how_many = chance.randrange(1, 9)
                text += chance.choice(((text[-p:] * 9)[:how_many], [chance.randrange(3)] * how_many,
                                       [chance.randrange(9) for i in range(how_many)]))
            yield text[:size]

    def test_long_texts(self):
        for data in self.texts():
            self.assertEqual(packed(data), first_of_fewest(data), data)

    def test_what_is_packed_is_unpacked(self):
        for data in self.texts():
            text = packed(data)
            self.assertLessEqual(len(text), len(data) + 1)
            self.assertEqual(answer(ROW, unpack(len(data), text)), [0] + data)
            self.assertEqual(answer(ROW, unpack(len(data) - 1, text)), [-4])


if __name__ == "__main__":
    unittest.main()
