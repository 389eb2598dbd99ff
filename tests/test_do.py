"""Promise 4: do."""

import unittest

from tests.lists import A, BYTES, C, CMPS, D, LODS, MOVS, O, P, S, SCAS, STOS, TELL, WIDTHS, WORD, Z
from tests.lists import ask, do, ins, machine, memory, program, run

OTHER_BITS = 2 ** 32 - 1 - (C | P | A | Z | S | D | O)
ROW = list(range(16, 48))


def low_first(number, width):
    return list(number.to_bytes(width, "little"))


def after(data, begin, call):
    """What do answers, then the registers, and the bytes."""
    given = ask(memory(data), begin, call, TELL, BYTES)
    return given[2], given[3][1:], given[4][1:]


class OneElement(unittest.TestCase):
    """Each instruction with rep 0, which leaves c alone, at each width, up and down."""

    def each_width(self):
        for width in WIDTHS:
            yield width, 0, width
            yield width, D, WORD - width

    def test_movs(self):
        for width, flags, moved in self.each_width():
            given = after(ROW, machine(1, 5, 3, 13, flags, 9), do(MOVS, width, 0, 1))
            expected = ROW[:13] + ROW[3:3 + width] + ROW[13 + width:]
            self.assertEqual(given[0], [0, 0, 1])
            self.assertEqual(given[1], [1, 5, (3 + moved) % WORD, (13 + moved) % WORD, flags, 9])
            self.assertEqual(given[2], expected)

    def test_movs_reads_whole_before_it_writes(self):
        given = after([1, 2, 3, 4, 5, 6], machine(si=0, di=1), do(MOVS, 4, 0, 1))
        self.assertEqual(given[2], [1, 1, 2, 3, 4, 6])
        given = after([1, 2, 3, 4, 5, 6], machine(si=2, di=1), do(MOVS, 4, 0, 1))
        self.assertEqual(given[2], [1, 3, 4, 5, 6, 6])

    def test_stos(self):
        a = 0xF1E2D3C4B5A69788
        for width, flags, moved in self.each_width():
            given = after(ROW, machine(a, 5, 3, 13, flags, 9), do(STOS, width, 0, 1))
            self.assertEqual(given[0], [0, 0, 1])
            self.assertEqual(given[1], [a, 5, 3, (13 + moved) % WORD, flags, 9])
            self.assertEqual(given[2], ROW[:13] + low_first(a, 8)[:width] + ROW[13 + width:])

    def test_lods_and_the_rest_of_a(self):
        a = 0xF1E2D3C4B5A69788
        loaded = {1: 0xF1E2D3C4B5A69713, 2: 0xF1E2D3C4B5A61413, 4: 0x16151413, 8: 0x1A19181716151413}
        for width, flags, moved in self.each_width():
            given = after(ROW, machine(a, 5, 3, 13, flags, 9), do(LODS, width, 0, 1))
            self.assertEqual(given[0], [0, 0, 1])
            self.assertEqual(given[1], [loaded[width], 5, (3 + moved) % WORD, 13, flags, 9])
            self.assertEqual(given[2], ROW)

    def test_scas(self):
        for width, flags, moved in self.each_width():
            element = int.from_bytes(ROW[13:13 + width], "little")
            a = element + 256 ** width * 3 if width < 8 else element
            given = after(ROW, machine(a, 5, 3, 13, flags, 9), do(SCAS, width, 0, 1))
            self.assertEqual(given[0], [0, 0, 1])
            self.assertEqual(given[1], [a, 5, 3, (13 + moved) % WORD, flags | Z | P, 9])
            self.assertEqual(given[2], ROW)

    def test_cmps(self):
        for width, flags, moved in self.each_width():
            data = ROW[:13] + ROW[3:13] + ROW[23:]
            given = after(data, machine(1, 5, 3, 13, flags, 9), do(CMPS, width, 0, 1))
            self.assertEqual(given[0], [0, 0, 1])
            self.assertEqual(given[1], [1, 5, (3 + moved) % WORD, (13 + moved) % WORD, flags | Z | P, 9])
            self.assertEqual(given[2], data)

    def test_c_does_not_count(self):
        for op in range(5):
            for c in (0, 1, WORD - 1):
                given = after(ROW, machine(c=c, di=1), do(op, 1, 0, 10000))
                self.assertEqual((given[0], given[1][1]), ([0, 0, 1], c))


class Comparison(unittest.TestCase):
    def flags_of(self, left, right, width, before=0):
        """By scas and by cmps, which must agree."""
        by_scas = after(low_first(right, width), machine(left, flags=before), do(SCAS, width, 0, 1))
        data = low_first(left, width) + low_first(right, width)
        by_cmps = after(data, machine(di=width, flags=before), do(CMPS, width, 0, 1))
        self.assertEqual(by_scas[1][4], by_cmps[1][4])
        return by_scas[1][4]

    def test_one_byte_by_hand(self):
        for left, right, flags in (
                (0, 0, Z | P),
                (0, 1, C | A | S | P),
                (1, 0, 0),
                (3, 0, P),
                (0x10, 1, A | P),
                (0x21, 0x12, A | P),
                (0x12, 0x21, C | S),
                (0x80, 1, A | O),
                (0x7F, 0xFF, C | S | O),
                (0x80, 0x7F, A | O),
                (0x7F, 0x80, C | S | O | P),
                (0xFF, 0xFF, Z | P),
                (0, 0x80, C | S | O),
                (0xFF, 0x7F, S),
                (0x80, 0, S),
                (5, 0xFD, C | A)):
            self.assertEqual(self.flags_of(left, right, 1), flags, (hex(left), hex(right)))

    def test_wider_by_hand(self):
        for left, right, width, flags in (
                (0x100, 0, 2, P),
                (0x0100, 0x0200, 2, C | S | P),
                (0x8000, 1, 2, A | O | P),
                (0x0080, 0, 2, 0),
                (0x80000000, 1, 4, A | O | P),
                (0, 0x80000000, 4, C | S | O | P),
                (0x10000, 0, 4, P),
                (0x8000, 0, 4, P),
                (0x80000000, 0, 8, P),
                (1 << 63, 1, 8, A | O | P),
                (0, WORD - 1, 8, C | A),
                (WORD - 1, WORD - 1, 8, Z | P),
                (1 << 63, 0, 8, S | P),
                (1 << 56, 1 << 57, 8, C | S | P)):
            self.assertEqual(self.flags_of(left, right, width), flags, (hex(left), hex(right), width))

    def by_signs(self, left, right, width):
        data = (left - right).to_bytes(width + 1, "little", signed=True)[:width]
        signed = [int.from_bytes(number.to_bytes(width, "little"), "little", signed=True)
                  for number in (left, right)]
        half = 128 * 256 ** (width - 1)
        return (C * (left < right) | A * (left & 15 < right & 15) | Z * (left == right)
                | S * (data[-1] > 127) | P * (bin(data[0]).count("1") in (0, 2, 4, 6, 8))
                | O * (not -half <= signed[0] - signed[1] < half))

    def test_many_pairs(self):
        for width in WIDTHS:
            top = 256 ** width
            edges = {0, 1, 2, 15, 16, 17, 127, 128, 129, 254, 255, top // 2 - 1, top // 2, top // 2 + 1,
                     top - 129, top - 128, top - 16, top - 2, top - 1, top // 3, 0xA5 * (top // 255)}
            edges = sorted(number for number in edges if number < top)
            for left in edges:
                for right in edges:
                    self.assertEqual(
                        self.flags_of(left, right, width), self.by_signs(left, right, width), (left, right, width))

    def test_bits_that_mean_nothing_and_d_stay(self):
        everything = 2 ** 32 - 1
        self.assertEqual(self.flags_of(1, 0, 1, OTHER_BITS), OTHER_BITS)
        self.assertEqual(self.flags_of(1, 0, 1, everything), OTHER_BITS | D)
        self.assertEqual(self.flags_of(0, 1, 1, everything), OTHER_BITS | D | C | A | S | P)
        self.assertEqual(self.flags_of(0, 0, 1, C | A | S | O), Z | P)

    def test_the_others_leave_the_flags(self):
        for op in (MOVS, STOS, LODS):
            for rep in (0, 1, 2):
                for flags in (0, 2 ** 32 - 1, Z, C | P | A | S | O):
                    given = after(ROW, machine(c=1, flags=flags), do(op, 8, rep, 9))
                    self.assertEqual((given[0], given[1][4]), ([0, 0, 1], flags))


class Repeated(unittest.TestCase):
    def test_moves_count_down_c(self):
        for rep in (1, 2):
            for flags in (0, Z):
                given = after(ROW, machine(c=3, si=2, di=20, flags=flags, at=7), do(MOVS, 2, rep, 10000))
                self.assertEqual(given[0], [0, 0, 3])
                self.assertEqual(given[1], [0, 0, 8, 26, flags, 7])
                self.assertEqual(given[2], ROW[:20] + ROW[2:8] + ROW[26:])

    def test_moves_that_overlap_repeat_what_they_run_into(self):
        given = after([1, 2, 3, 4, 5, 6], machine(c=4, si=0, di=2), do(MOVS, 1, 1, 10))
        self.assertEqual(given[2], [1, 2, 1, 2, 1, 2])
        given = after([1, 2, 3, 4, 5, 6], machine(c=4, si=5, di=4, flags=D), do(MOVS, 1, 1, 10))
        self.assertEqual(given[1], [0, 0, 1, 0, D, 0])
        self.assertEqual(given[2], [1, 6, 6, 6, 6, 6])

    def test_moves_down(self):
        given = after([1, 2, 3, 4, 5, 6], machine(c=4, si=3, di=5, flags=D), do(MOVS, 1, 2, 10))
        self.assertEqual(given[1], [0, 0, WORD - 1, 1, D, 0])
        self.assertEqual(given[2], [1, 2, 1, 2, 3, 4])

    def test_stores_and_loads(self):
        given = after([0] * 8, machine(a=0x1234, c=3, di=1), do(STOS, 2, 2, 10))
        self.assertEqual(given, ([0, 0, 3], [0x1234, 0, 0, 7, 0, 0], [0] + [0x34, 0x12] * 3 + [0]))
        given = after([1, 2, 3, 4], machine(a=0xAA00, c=3), do(LODS, 1, 1, 10))
        self.assertEqual(given, ([0, 0, 3], [0xAA03, 0, 3, 0, 0, 0], [1, 2, 3, 4]))

    def test_scas_while_alike(self):
        given = after([5, 5, 6, 5], machine(a=5, c=4), do(SCAS, 1, 1, 10))
        self.assertEqual(given[:2], ([0, 0, 3], [5, 1, 0, 3, C | A | S | P, 0]))

    def test_scas_while_unlike(self):
        given = after([7, 6, 5, 5], machine(a=5, c=4, flags=Z), do(SCAS, 1, 2, 10))
        self.assertEqual(given[:2], ([0, 0, 3], [5, 1, 0, 3, Z | P, 0]))

    def test_cmps_while_alike_and_unlike(self):
        data = [1, 2, 3, 9, 1, 2, 4, 9]
        given = after(data, machine(c=4, di=4), do(CMPS, 1, 1, 10))
        self.assertEqual(given[:2], ([0, 0, 3], [0, 1, 3, 7, C | A | S | P, 0]))
        data = [1, 2, 3, 9, 8, 7, 6, 9]
        given = after(data, machine(c=9, di=4), do(CMPS, 1, 2, 10))
        self.assertEqual(given[:2], ([0, 0, 4], [0, 5, 4, 8, Z | P, 0]))

    def test_to_the_end_of_c(self):
        given = after([5, 5, 5], machine(a=5, c=3), do(SCAS, 1, 1, 10))
        self.assertEqual(given[:2], ([0, 0, 3], [5, 0, 0, 3, Z | P, 0]))
        given = after([4, 4, 4], machine(a=5, c=3), do(SCAS, 1, 2, 10))
        self.assertEqual(given[:2], ([0, 0, 3], [5, 0, 0, 3, 0, 0]))

    def test_z_before_the_first_element_says_nothing(self):
        for op in (SCAS, CMPS):
            given = after([0, 0], machine(c=2), do(op, 1, 1, 10))
            self.assertEqual(given[0], [0, 0, 2])
            given = after([1, 1, 2, 2], machine(c=2, di=2, flags=Z), do(op, 1, 2, 10))
            self.assertEqual(given[0], [0, 0, 2])

    def test_c_of_0(self):
        for op in range(5):
            for rep in (1, 2):
                for most in (0, 1, 10000):
                    begin = [7, 0, 3, 4, Z | C | OTHER_BITS, 9]
                    given = after(ROW, machine(*begin), do(op, 4, rep, most))
                    self.assertEqual(given, ([0, 0, 0], begin, ROW))

    def test_c_at_its_highest(self):
        given = after([0] * 6, machine(c=WORD - 1, a=1), do(STOS, 1, 1, 4))
        self.assertEqual(given[:2], ([0, 1, 4], [1, WORD - 5, 0, 4, 0, 0]))

    def test_in_parts_as_in_one(self):
        for op in range(5):
            whole = ask(memory([3] * 64), machine(0x03030303, 5, 1, 2), do(op, 4, 1, 9), TELL, BYTES)
            parts = ask(memory([3] * 64), machine(0x03030303, 5, 1, 2), *[do(op, 4, 1, 2)] * 2, do(op, 4, 1, 9),
                        TELL, BYTES)
            self.assertEqual(whole[-2:], parts[-2:])


class Ends(unittest.TestCase):
    def test_most_of_0(self):
        for op in range(5):
            for rep in (0, 1, 2):
                begin = [7, 2, 3, 4, 5, 6]
                self.assertEqual(after(ROW, machine(*begin), do(op, 1, rep, 0)), ([0, 1, 0], begin, ROW))

    def test_most_done(self):
        given = after(ROW, machine(c=5, di=16), do(MOVS, 1, 1, 3))
        self.assertEqual(given[:2], ([0, 1, 3], [0, 2, 3, 19, 0, 0]))

    def test_finished_is_asked_before_most(self):
        self.assertEqual(after(ROW, machine(c=3), do(STOS, 1, 1, 3))[0], [0, 0, 3])
        self.assertEqual(after(ROW, machine(), do(STOS, 1, 0, 1))[0], [0, 0, 1])
        self.assertEqual(after([1, 2], machine(a=9, c=2), do(SCAS, 1, 1, 1))[0], [0, 0, 1])
        self.assertEqual(after([1, 2], machine(a=1, c=2), do(SCAS, 1, 2, 1))[0], [0, 0, 1])

    def test_finished_is_asked_before_memory(self):
        for op in range(5):
            far = machine(si=WORD - 1, di=WORD - 1)
            self.assertEqual(after([], far, do(op, 8, 1, 5))[0], [0, 0, 0])

    def test_most_is_asked_before_memory(self):
        for op in range(5):
            for rep in (0, 1, 2):
                self.assertEqual(after([], machine(c=1), do(op, 1, rep, 0))[0], [0, 1, 0])
        self.assertEqual(after([0, 0], machine(c=5), do(STOS, 1, 1, 2))[0], [0, 1, 2])
        self.assertEqual(after([0, 0], machine(c=5), do(STOS, 1, 1, 3))[0], [0, 3, 2])

    def test_no_memory_at_all(self):
        for op in range(5):
            for width in WIDTHS:
                for rep in (0, 1, 2):
                    begin = [1, 2, 0, 0, 5, 6]
                    self.assertEqual(after([], machine(*begin), do(op, width, rep, 9)), ([0, 3, 0], begin, []))

    def test_which_elements_are_needed(self):
        needs = {MOVS: (True, True), STOS: (False, True), LODS: (True, False), SCAS: (False, True),
                 CMPS: (True, True)}
        for op, (si_is_needed, di_is_needed) in needs.items():
            for far in (9, 256, WORD - 1):
                given = after([1] * 9, machine(si=far, di=0), do(op, 1, 0, 1))
                self.assertEqual(given[0], [0, 3, 0] if si_is_needed else [0, 0, 1], (op, far))
                given = after([1] * 9, machine(si=0, di=far), do(op, 1, 0, 1))
                self.assertEqual(given[0], [0, 3, 0] if di_is_needed else [0, 0, 1], (op, far))

    def test_the_last_element_that_fits(self):
        for op in range(5):
            for width in WIDTHS:
                for length in (8, 20, 256):
                    last = length - width
                    given = after([7] * length, machine(si=last, di=last), do(op, width, 0, 1))
                    self.assertEqual(given[0], [0, 0, 1])
                    begin = [0, 0, last + 1, last + 1, 0, 0]
                    given = after([7] * length, machine(*begin), do(op, width, 0, 1))
                    self.assertEqual(given, ([0, 3, 0], begin, [7] * length))

    def test_an_element_does_not_go_round_from_the_end_to_0(self):
        for op in range(5):
            begin = [0, 1, WORD - 1, WORD - 1, 0, 0]
            self.assertEqual(after(ROW, machine(*begin), do(op, 2, 1, 1)), ([0, 3, 0], begin, ROW))

    def test_memory_and_registers_as_the_done_ones_left_them(self):
        given = after([1, 2, 3, 4, 5], machine(c=9, si=0, di=2, at=3), do(MOVS, 2, 1, 50))
        self.assertEqual(given, ([0, 3, 1], [0, 8, 2, 4, 0, 3], [1, 2, 1, 2, 5]))
        given = after([5, 5], machine(a=5, c=9), do(SCAS, 1, 1, 50))
        self.assertEqual(given, ([0, 3, 2], [5, 7, 0, 2, Z | P, 0], [5, 5]))

    def test_registers_pass_0_downward(self):
        given = after([1, 2, 3], machine(a=8, c=9, di=1, flags=D), do(STOS, 1, 1, 50))
        self.assertEqual(given, ([0, 3, 2], [8, 7, 0, WORD - 1, D, 0], [8, 8, 3]))
        given = after(ROW, machine(si=3, di=0, flags=D), do(MOVS, 8, 0, 50))
        self.assertEqual(given[1], [0, 0, WORD - 5, WORD - 8, D, 0])

    def test_a_register_that_passed_0_comes_back_over_2_to_the_64(self):
        given = ask(memory(ROW), machine(si=0, flags=D), do(LODS, 8, 0, 1), TELL, program(ins(6, x=2, k=8)),
                    run(1), do(LODS, 8, 0, 1), TELL)
        self.assertEqual(given[3][3], WORD - 8)
        self.assertEqual(given[6], [0, 0, 1])
        self.assertEqual(given[7][3], WORD - 8)

    def test_at_stays_and_the_program_is_not_asked(self):
        given = ask(memory([1, 2]), program(ins(5, k=9)), machine(at=2 ** 32 - 1), do(LODS, 1, 0, 1), TELL,
                    machine(), do(LODS, 1, 0, 1), TELL, run(1), TELL)
        self.assertEqual(given[4], [0, 1, 0, 1, 0, 0, 2 ** 32 - 1])
        self.assertEqual(given[7], [0, 1, 0, 1, 0, 0, 0])
        self.assertEqual(given[9], [0, 9, 0, 1, 0, 0, 1])


class Refused(unittest.TestCase):
    def check_refused(self, *numbers):
        begin = [1, 2, 3, 4, 5, 6]
        self.assertEqual(after(ROW, machine(*begin), do(*numbers)), ([-1], begin, ROW), numbers)

    def test_each_argument(self):
        for wrong in (-1, 5, 6, 14, WORD, -2 * WORD):
            self.check_refused(wrong, 1, 0, 1)
        for wrong in (-1, 0, 3, 5, 6, 7, 9, 16, WORD, -8):
            for op in range(5):
                self.check_refused(op, wrong, 0, 1)
        for wrong in (-1, 3, 4, WORD, 2 * WORD - 1):
            self.check_refused(1, 1, wrong, 1)
        for wrong in (-1, 10001, 10002, WORD, -WORD):
            self.check_refused(1, 1, 1, wrong)

    def test_refused_though_nothing_would_be_done(self):
        given = ask(do(0, 3, 1, 1), do(0, 1, 1, -1), do(0, 1, 1, 10001), do(0, 1, 1, 10000))
        self.assertEqual(given, [[-1], [-1], [-1], [0, 0, 0]])


if __name__ == "__main__":
    unittest.main()
