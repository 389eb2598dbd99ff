"""Promises 1, 2, 6 and 7: memory, machine, tell and bytes."""

import unittest

from tests.lists import BYTES, TELL, WORD, ask, copy, do, fill, ins, machine, memory, program, run


class Beginning(unittest.TestCase):
    def test_nothing_is_there(self):
        self.assertEqual(ask(TELL, BYTES, run(5)), [[0, 0, 0, 0, 0, 0, 0], [0], [0, 4, 0]])

    def test_telling_changes_nothing(self):
        given = ask(memory([5, 6]), machine(1, 2, 3, 4, 5, 6), TELL, BYTES, TELL, BYTES)
        self.assertEqual(given[2:], [[0, 1, 2, 3, 4, 5, 6], [0, 5, 6]] * 2)


class Memory(unittest.TestCase):
    def test_ordinary(self):
        self.assertEqual(ask(memory([7, 0, 255]), BYTES), [[0], [0, 7, 0, 255]])

    def test_none_and_256(self):
        full = list(range(256))
        given = ask(memory(full), BYTES, memory([]), BYTES)
        self.assertEqual(given, [[0], [0] + full, [0], [0]])

    def test_a_later_one_stands_alone(self):
        given = ask(memory([1, 2, 3, 4]), memory([9]), BYTES, memory([8, 7, 6]), BYTES)
        self.assertEqual(given[2], [0, 9])
        self.assertEqual(given[4], [0, 8, 7, 6])

    def test_too_many_bytes(self):
        for length in (257, 258, 400):
            given = ask(memory([3, 4]), memory([0] * length), BYTES)
            self.assertEqual(given, [[0], [-1], [0, 3, 4]], length)

    def test_what_is_no_byte(self):
        for wrong in (-1, 256, 257, -256, WORD, -2 * WORD, 2 * WORD - 1):
            for data in ([wrong], [wrong, 1, 2], [1, wrong, 2], [1, 2, wrong]):
                given = ask(memory([3, 4]), memory(data), BYTES)
                self.assertEqual(given, [[0], [-1], [0, 3, 4]], data)

    def test_one_wrong_byte_among_256(self):
        given = ask(memory([0] * 255 + [256]), memory([-1] + [0] * 255), BYTES)
        self.assertEqual(given, [[-1], [-1], [0]])

    def test_the_rest_stays(self):
        given = ask(program(ins(13)), machine(1, 2, 3, 4, 5, 0), memory([1]), TELL, run(9))
        self.assertEqual(given[2:], [[0], [0, 1, 2, 3, 4, 5, 0], [0, 0, 0]])


class Machine(unittest.TestCase):
    LIMITS = (WORD, WORD, WORD, WORD, 2 ** 32, 2 ** 32)

    def test_ordinary(self):
        given = ask(machine(11, 12, 13, 14, 15, 16), TELL)
        self.assertEqual(given, [[0], [0, 11, 12, 13, 14, 15, 16]])

    def test_all_at_their_limits(self):
        highest = [limit - 1 for limit in self.LIMITS]
        given = ask(machine(*highest), TELL, machine(), TELL)
        self.assertEqual(given, [[0], [0] + highest, [0], [0] * 7])

    def test_each_alone_at_its_highest(self):
        for i, limit in enumerate(self.LIMITS):
            numbers = [0] * 6
            numbers[i] = limit - 1
            self.assertEqual(ask(machine(*numbers), TELL), [[0], [0] + numbers], i)

    def test_each_alone_wrong(self):
        for i, limit in enumerate(self.LIMITS):
            for wrong in (-1, limit, limit + 1, -WORD, 2 * WORD - 1, -2 * WORD):
                numbers = [7, 7, 7, 7, 7, 7]
                numbers[i] = wrong
                given = ask(machine(1, 2, 3, 4, 5, 6), machine(*numbers), TELL)
                self.assertEqual(given, [[0], [-1], [0, 1, 2, 3, 4, 5, 6]], (i, wrong))

    def test_each_bit_of_flags_stands(self):
        for bit in range(32):
            self.assertEqual(ask(machine(flags=1 << bit), TELL)[1], [0, 0, 0, 0, 0, 1 << bit, 0])

    def test_the_rest_stays(self):
        given = ask(memory([1, 2]), program(ins(13)), machine(9, 9, 9, 9, 9, 0), BYTES, run(3))
        self.assertEqual(given[2:], [[0], [0, 1, 2], [0, 0, 0]])


class TellAfterOtherCalls(unittest.TestCase):
    def test_tell_and_bytes_after_each_call(self):
        given = ask(
            memory([1, 2, 3, 4]), machine(5, 2, 0, 2, 0, 0), do(0, 1, 1, 9), TELL, BYTES,
            program(ins(5, x=0, k=77), ins(13)), run(9), TELL,
            copy(1, 0, 1, 1, 0), BYTES, fill(0, 1, 1, 66), BYTES, TELL)
        self.assertEqual(given[2:5], [[0, 0, 2], [0, 5, 0, 2, 4, 0, 0], [0, 1, 2, 1, 2]])
        self.assertEqual(given[6:8], [[0, 0, 1], [0, 77, 0, 2, 4, 0, 1]])
        self.assertEqual(given[9], [0, 1, 1, 1, 2])
        self.assertEqual(given[11:], [[0, 66, 1, 1, 2], [0, 77, 0, 2, 4, 0, 1]])

    def test_tell_and_bytes_after_refusals(self):
        given = ask(
            memory([1, 2]), machine(1, 2, 3, 4, 5, 6), memory([256]), machine(a=-1), program([1]),
            do(5, 1, 0, 1), run(-1), copy(0, 0, 3, 1, 0), fill(0, 3, 1, 0), TELL, BYTES)
        self.assertEqual(given[2:9], [[-1]] * 7)
        self.assertEqual(given[9:], [[0, 1, 2, 3, 4, 5, 6], [0, 1, 2]])


if __name__ == "__main__":
    unittest.main()
