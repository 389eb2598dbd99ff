"""Promise 5: run."""

import unittest

from tests.lists import BYTES, C, D, TELL, WORD, Z, ask, do, ins, machine, memory, program, run

A_WORD = 0xF1E2D3C4B5A69788
ROW = list(range(16, 32))


def after(instructions, begin, steps, data=()):
    """What run answers, then the registers, and the bytes."""
    given = ask(memory(data), program(*instructions), begin, run(steps), TELL, BYTES)
    assert given[1] == [0, 0, 0], given[1]
    return given[3], given[4][1:], given[5][1:]


class PlainInstructions(unittest.TestCase):
    def check_one(self, instruction, begin, regs, flags=None, data=(), data_after=None):
        """One step of one instruction; behind it the program is at its end."""
        given = after([instruction], machine(*begin), 9, list(data))
        self.assertEqual(given[0], [0, 4, 1])
        self.assertEqual(given[1], regs + [begin[4] if flags is None else flags, 1])
        self.assertEqual(given[2], list(data if data_after is None else data_after))

    def test_5_puts_k(self):
        for x in range(4):
            for k in (0, 7, WORD - 1):
                expected = [1, 2, 3, 4]
                expected[x] = k
                self.check_one(ins(5, x=x, y=1, k=k), [1, 2, 3, 4, 99, 0], expected)

    def test_6_adds_k(self):
        for x in range(4):
            for k, total in ((0, 5), (7, 12), (WORD - 1, 4), (WORD - 5, 0), (WORD - 6, WORD - 1)):
                expected = [5, 5, 5, 5]
                expected[x] = total
                self.check_one(ins(6, x=x, y=1, k=k), [5, 5, 5, 5, 2 ** 32 - 1, 0], expected)

    def test_7_takes_the_other(self):
        for x in range(4):
            for y in range(4):
                begin = [11, 12, 13, WORD - 1]
                expected = list(begin)
                expected[x] = begin[y]
                self.check_one(ins(7, x=x, y=y, k=5), begin + [0, 0], expected)

    def test_8_sets_d_alone(self):
        everything = 2 ** 32 - 1
        for k, d in ((0, 0), (1, D), (2, 0), (3, D), (WORD - 1, D), (WORD - 2, 0)):
            self.check_one(ins(8, k=k), [1, 2, 3, 4, 0, 0], [1, 2, 3, 4], d)
            self.check_one(ins(8, k=k), [1, 2, 3, 4, everything, 0], [1, 2, 3, 4], everything - D + d)

    def test_10_turns_its_own_bytes(self):
        turned = {2: 0xF1E2D3C4B5A68897, 4: 0x8897A6B5, 8: 0x8897A6B5C4D3E2F1}
        for x in range(4):
            for width, number in turned.items():
                expected = [A_WORD] * 4
                expected[x] = number
                self.check_one(ins(10, width=width, x=x, y=(x + 1) % 4), [A_WORD] * 4 + [7, 0], expected)

    def test_11_loads_turned(self):
        turned = {2: 0xF1E2D3C4B5A61314, 4: 0x13141516, 8: 0x131415161718191A}
        for x in (0, 1, 3):
            for width, number in turned.items():
                for flags in (0, D):
                    begin = [A_WORD, A_WORD, 3, A_WORD]
                    expected = list(begin)
                    expected[x] = number
                    self.check_one(ins(11, width=width, x=x), begin + [flags, 0], expected, data=ROW)

    def test_11_into_si(self):
        for width, number in ((2, 0x1314), (4, 0x13141516), (8, 0x131415161718191A)):
            self.check_one(ins(11, width=width, x=2), [1, 2, 3, 4, 0, 0], [1, 2, number, 4], data=ROW)

    def test_12_exchanges(self):
        for x in range(4):
            for y in range(4):
                begin = [11, 12, 13, WORD - 1]
                expected = list(begin)
                expected[x], expected[y] = begin[y], begin[x]
                self.check_one(ins(12, x=x, y=y, k=5), begin + [0, 0], expected)

    def test_14_stores_turned(self):
        low_first = list(A_WORD.to_bytes(8, "little"))
        for x in (0, 1, 2):
            for width in (2, 4, 8):
                for flags in (0, D):
                    begin = [0, 0, 0, 3]
                    begin[x] = A_WORD
                    expected = ROW[:3] + low_first[:width][::-1] + ROW[3 + width:]
                    self.check_one(ins(14, width=width, x=x), begin + [flags, 0], begin, data=ROW,
                                   data_after=expected)

    def test_14_of_di_itself(self):
        self.check_one(ins(14, width=4, x=3), [0, 0, 0, 3, 0, 0], [0, 0, 0, 3], data=ROW,
                       data_after=ROW[:3] + [0, 0, 0, 3] + ROW[7:])

    def test_13_stops_and_is_no_step(self):
        for steps in (0, 1, 10000):
            given = after([ins(13), ins(5, k=1)], machine(1, 2, 3, 4, 5, 0), steps)
            self.assertEqual(given[:2], ([0, 0, 0], [1, 2, 3, 4, 5, 0]))


class Jumps(unittest.TestCase):
    def goes(self, cond, c, flags):
        jump = [ins(13), ins(9, cond=cond, to=3), ins(13), ins(13)]
        given = after(jump, machine(1, c, 3, 4, flags, 1), 5)
        self.assertEqual(given[0], [0, 0, 1])
        self.assertEqual(given[1][:5], [1, c, 3, 4, flags])
        self.assertIn(given[1][5], (2, 3))
        return given[1][5] == 3

    def test_each_condition(self):
        everything = 2 ** 32 - 1
        for c in (0, 1, WORD - 1):
            for flags in (0, Z, C, Z | C, everything, everything - Z, everything - C, everything - Z - C):
                z, carry = bool(flags & Z), bool(flags & C)
                expected = [True, z, not z, carry, not carry, c == 0, c != 0]
                self.assertEqual([self.goes(cond, c, flags) for cond in range(7)], expected, (c, flags))

    def test_to_itself_and_back(self):
        self.assertEqual(after([ins(9)], machine(), 10000)[:2], ([0, 1, 10000], [0] * 6))
        loop = [ins(6, x=0, k=3), ins(6, x=1, k=WORD - 1), ins(9, cond=6, to=0)]
        self.assertEqual(after(loop, machine(c=5), 10000)[:2], ([0, 4, 15], [15, 0, 0, 0, 0, 3]))

    def test_to_the_last(self):
        self.assertEqual(after([ins(9, to=2), ins(5, k=1), ins(13)], machine(), 9)[:2],
                         ([0, 0, 1], [0, 0, 0, 0, 0, 2]))


class Ends(unittest.TestCase):
    def test_at_behind_the_last_and_far_beyond(self):
        for at in (1, 2, 64, 255, 2 ** 32 - 1):
            for steps in (0, 1, 10000):
                given = after([ins(5, k=1)], machine(at=at), steps)
                self.assertEqual(given[:2], ([0, 4, 0], [0, 0, 0, 0, 0, at]))
        self.assertEqual(after([], machine(), 0)[0], [0, 4, 0])

    def test_at_in_the_midst(self):
        given = after([ins(6, k=1), ins(6, k=10), ins(6, k=100)], machine(at=1), 9)
        self.assertEqual(given[:2], ([0, 4, 2], [110, 0, 0, 0, 0, 3]))

    def test_steps_of_0(self):
        for instruction in (ins(5, k=1), ins(9), ins(0, 1, 0), ins(1, 1, 1), ins(11, 2), ins(14, 2)):
            given = after([instruction], machine(0, 1, 0, 0, 0, 0), 0, [1, 2])
            self.assertEqual(given, ([0, 1, 0], [0, 1, 0, 0, 0, 0], [1, 2]))

    def test_end_and_stop_are_asked_before_steps(self):
        self.assertEqual(after([ins(8)], machine(), 1)[0], [0, 4, 1])
        self.assertEqual(after([ins(8), ins(13)], machine(), 1)[0], [0, 0, 1])
        self.assertEqual(after([ins(8), ins(8)], machine(), 1)[:2], ([0, 1, 1], [0, 0, 0, 0, 0, 1]))

    def test_steps_are_asked_before_memory(self):
        for instruction in (ins(0, 1), ins(2, 8, 1), ins(11, 2), ins(14, 2)):
            self.assertEqual(after([instruction], machine(c=1), 0)[0], [0, 1, 0])
            self.assertEqual(after([ins(8), instruction], machine(c=1), 1)[0], [0, 1, 1])
            self.assertEqual(after([ins(8), instruction], machine(c=1), 2)[:2], ([0, 3, 1], [0, 1, 0, 0, 0, 1]))

    def test_turned_elements_that_are_not_there(self):
        for op in (11, 14):
            for width in (2, 4, 8):
                for place in (len(ROW) - width + 1, len(ROW), 256, WORD - 1):
                    begin = [1, 2, place if op == 11 else 0, place if op == 14 else 0, 5, 0]
                    given = after([ins(op, width)], machine(*begin), 9, ROW)
                    self.assertEqual(given, ([0, 3, 0], begin, ROW))
                place = len(ROW) - width
                begin = [1, 2, place if op == 11 else WORD - 1, place if op == 14 else WORD - 1, 5, 0]
                given = after([ins(op, width, x=1)], machine(*begin), 9, ROW)
                self.assertEqual((given[0], given[1][2:]), ([0, 4, 1], begin[2:5] + [1]))

    def test_turning_its_own_bytes_needs_no_memory(self):
        self.assertEqual(after([ins(10, 8)], machine(si=WORD - 1, di=WORD - 1), 9)[0], [0, 4, 1])


class StringInstructions(unittest.TestCase):
    def test_each_once(self):
        begin = [0x11, 5, 2, 9, 0, 0]
        for op in range(5):
            alone = ask(memory(ROW), machine(*begin), do(op, 2, 0, 1), TELL, BYTES)
            given = after([ins(op, 2)], machine(*begin), 9, ROW)
            self.assertEqual(given, ([0, 4, 1], alone[3][1:6] + [1], alone[4][1:]), op)

    def test_as_many_steps_as_elements(self):
        fill = [ins(5, x=1, k=6), ins(1, 2, 1), ins(13)]
        given = after(fill, machine(a=0x0201), 10000, [0] * 12)
        self.assertEqual(given, ([0, 0, 7], [0x0201, 0, 0, 12, 0, 2], [1, 2] * 6))

    def test_width_and_rep_are_the_instructions_own(self):
        data = [5, 5, 6, 5]
        given = after([ins(3, 1, 1), ins(13)], machine(5, 4), 99, data)
        self.assertEqual((given[0], given[1][:4]), ([0, 0, 3], [5, 1, 0, 3]))
        given = after([ins(3, 1, 2), ins(13)], machine(6, 4), 99, data)
        self.assertEqual((given[0], given[1][:4]), ([0, 0, 3], [6, 1, 0, 3]))
        given = after([ins(3, 1, 0), ins(13)], machine(6, 4), 99, data)
        self.assertEqual((given[0], given[1][:4]), ([0, 0, 1], [6, 4, 0, 1]))

    def test_one_that_does_no_element_is_one_step(self):
        for op in range(5):
            for rep in (1, 2):
                begin = [1, 0, WORD - 1, WORD - 1, 5, 0]
                given = after([ins(op, 4, rep), ins(13)], machine(*begin), 9)
                self.assertEqual(given[:2], ([0, 0, 1], begin[:5] + [1]))
                given = after([ins(op, 4, rep), ins(8)], machine(*begin), 1)
                self.assertEqual(given[:2], ([0, 1, 1], begin[:5] + [1]))
                given = after([ins(op, 4, rep)], machine(*begin), 0)
                self.assertEqual(given[:2], ([0, 1, 0], begin))

    def test_steps_that_end_in_its_midst(self):
        given = after([ins(8), ins(0, 1, 1), ins(13)], machine(c=5, di=8), 4, ROW)
        self.assertEqual(given, ([0, 1, 4], [0, 2, 3, 11, 0, 1], ROW[:8] + ROW[:3] + ROW[11:]))

    def test_steps_that_end_just_with_it(self):
        for steps, ended in ((6, [0, 0, 6]), (7, [0, 0, 6])):
            given = after([ins(8), ins(0, 1, 1), ins(13)], machine(c=5, di=8), steps, ROW)
            self.assertEqual((given[0], given[1]), (ended, [0, 0, 5, 13, 0, 2]))
        given = after([ins(1, 1, 1), ins(8)], machine(c=2), 2, ROW)
        self.assertEqual((given[0], given[1]), ([0, 1, 2], [0, 0, 0, 2, 0, 1]))
        given = after([ins(3, 1, 1), ins(8)], machine(a=0, c=9), 1, ROW)
        self.assertEqual((given[0], given[1][5]), ([0, 1, 1], 1))

    def test_taken_up_again(self):
        instructions = [ins(5, x=1, k=5), ins(0, 1, 1), ins(6, k=1), ins(13)]
        whole = ask(memory(ROW), program(*instructions), machine(di=8), run(100), TELL, BYTES)
        for first in range(8):
            given = ask(memory(ROW), program(*instructions), machine(di=8), run(first), run(100), TELL, BYTES)
            self.assertEqual(given[3], [0, 0 if first == 7 else 1, first])
            self.assertEqual(given[4], [0, 0, 7 - first])
            self.assertEqual(given[5:], whole[4:])
        single = ask(memory(ROW), program(*instructions), machine(di=8), *[run(1)] * 8, TELL, BYTES)
        self.assertEqual(single[3:11], [[0, 1, 1]] * 6 + [[0, 0, 1], [0, 0, 0]])
        self.assertEqual(single[11:], whole[4:])

    def test_an_element_that_is_not_there(self):
        given = after([ins(8), ins(1, 1, 1), ins(13)], machine(a=7, c=5, di=14), 99, ROW)
        self.assertEqual(given, ([0, 3, 3], [7, 3, 0, 16, 0, 1], ROW[:14] + [7, 7]))
        given = after([ins(8), ins(4, 4, 0), ins(13)], machine(si=0, di=13), 99, ROW)
        self.assertEqual(given, ([0, 3, 1], [0, 0, 0, 13, 0, 1], ROW))

    def test_steps_that_end_where_no_element_is(self):
        given = after([ins(1, 1, 1)], machine(c=5, di=14), 2, ROW)
        self.assertEqual((given[0], given[1]), ([0, 1, 2], [0, 3, 0, 16, 0, 0]))
        given = after([ins(1, 1, 1)], machine(c=5, di=14), 3, ROW)
        self.assertEqual((given[0], given[1]), ([0, 3, 2], [0, 3, 0, 16, 0, 0]))

    def test_taken_up_again_with_more_memory(self):
        given = ask(memory([0, 0]), program(ins(1, 1, 1), ins(13)), machine(a=3, c=4), run(9), memory([0] * 4),
                    run(9), TELL, BYTES)
        self.assertEqual(given[3], [0, 3, 2])
        self.assertEqual(given[5:], [[0, 0, 2], [0, 3, 0, 0, 4, 0, 1], [0, 0, 0, 3, 3]])

    def test_direction_set_by_the_program(self):
        instructions = [ins(8, k=1), ins(0, 2, 1), ins(8, k=0), ins(1, 1, 0), ins(13)]
        given = after(instructions, machine(a=99, c=2, si=2, di=4), 99, [1, 2, 3, 4, 5, 6])
        self.assertEqual(given, ([0, 0, 5], [99, 0, WORD - 2, 1, 0, 4], [99, 2, 1, 2, 3, 4]))

    def test_a_program_that_searches(self):
        instructions = [ins(5, x=0, k=44), ins(5, x=1, k=6), ins(3, 1, 2), ins(9, cond=2, to=6),
                        ins(6, x=3, k=WORD - 1), ins(13), ins(5, x=3, k=WORD - 1), ins(13)]
        found = after(instructions, machine(), 99, [1, 2, 44, 3, 4, 5])
        self.assertEqual((found[0], found[1][3], found[1][5]), ([0, 0, 7], 2, 5))
        lost = after(instructions, machine(), 99, [1, 2, 43, 3, 4, 5])
        self.assertEqual((lost[0], lost[1][3], lost[1][5]), ([0, 0, 10], WORD - 1, 7))


class Refused(unittest.TestCase):
    def test_steps(self):
        for wrong in (-1, 10001, WORD, -2 * WORD, 2 * WORD - 1):
            given = after([ins(5, k=1)], machine(7, 2, 3, 4, 5, 0), wrong, [1])
            self.assertEqual(given, ([-1], [7, 2, 3, 4, 5, 0], [1]), wrong)
        self.assertEqual(ask(run(10001), run(10000)), [[-1], [0, 4, 0]])


if __name__ == "__main__":
    unittest.main()
