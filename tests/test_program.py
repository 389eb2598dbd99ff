"""Promise 3: program."""

import unittest

from tests.lists import BYTES, TELL, WORD, ask, ins, machine, memory, program, run

FIELD_NAMES = ("op", "width", "rep", "cond", "to", "x", "y", "k")

# One well-formed instruction of each op, for a program of it alone.
WELL_FORMED = {
    0: {"width": 1}, 1: {"width": 2}, 2: {"width": 4}, 3: {"width": 8}, 4: {"width": 1, "rep": 2},
    5: {}, 6: {}, 7: {}, 8: {}, 9: {"cond": 6}, 10: {"width": 2}, 11: {"width": 4}, 12: {}, 13: {},
    14: {"width": 8},
}

# Which fields beside x and y can make an instruction of an op ill-formed.
JUDGED = {op: () for op in range(15)}
for string_op in range(5):
    JUDGED[string_op] = ("width", "rep")
for turning_op in (10, 11, 14):
    JUDGED[turning_op] = ("width",)
JUDGED[9] = ("cond", "to")


def one(op, **changes):
    return ins(op, **{**WELL_FORMED.get(op, {}), **changes})


class Stands(unittest.TestCase):
    def test_none(self):
        self.assertEqual(ask(program(), run(3)), [[0, 0, 0], [0, 4, 0]])

    def test_these_are_the_instructions(self):
        given = ask(program(ins(5, x=0, k=3), ins(6, x=0, k=4), ins(13)), run(9), TELL)
        self.assertEqual(given, [[0, 0, 0], [0, 0, 2], [0, 7, 0, 0, 0, 0, 2]])

    def test_64_of_them(self):
        given = ask(program(*[ins(6, x=3, k=2)] * 64), run(100), TELL)
        self.assertEqual(given, [[0, 0, 0], [0, 4, 64], [0, 0, 0, 0, 128, 0, 64]])

    def test_a_later_one_stands_alone(self):
        given = ask(program(*[ins(6, k=1)] * 5), program(ins(6, k=10)), run(100), TELL)
        self.assertEqual(given[2:], [[0, 4, 1], [0, 10, 0, 0, 0, 0, 1]])
        given = ask(program(ins(13)), program(), run(1))
        self.assertEqual(given[2], [0, 4, 0])

    def test_the_rest_stays(self):
        given = ask(memory([1, 2]), machine(1, 2, 3, 4, 5, 6), program(ins(13)), TELL, BYTES)
        self.assertEqual(given[2:], [[0, 0, 0], [0, 1, 2, 3, 4, 5, 6], [0, 1, 2]])


class Refused(unittest.TestCase):
    def check_refused(self, numbers):
        given = ask(
            memory([4]), machine(1, 2, 3, 4, 5, 0), program(ins(5, x=1, k=8)),
            [3, len(numbers), *numbers], TELL, BYTES, run(7), TELL)
        self.assertEqual(given[3], [-1], numbers[:8])
        self.assertEqual(given[4:6], [[0, 1, 2, 3, 4, 5, 0], [0, 4]])
        self.assertEqual(given[6:], [[0, 4, 1], [0, 1, 8, 3, 4, 5, 1]])

    def test_more_than_64(self):
        for how_many in (65, 66, 87):
            self.check_refused(ins(13) * how_many)

    def test_not_eight_each(self):
        for length in (1, 2, 4, 7, 9, 12, 15, 17, 511, 513, 519, 700):
            self.check_refused([0] * length)

    def test_a_number_below_or_above(self):
        for wrong in (-1, WORD, -WORD, 2 * WORD - 1, -2 * WORD):
            for field in range(8):
                numbers = ins(13)
                numbers[field] = wrong
                self.check_refused(numbers)
                self.check_refused(ins(13) * 3 + numbers)

    def test_refused_though_an_earlier_one_is_ill_formed(self):
        self.check_refused(ins(15) + ins(13, k=-1))
        self.check_refused(ins(15) + [0])
        self.check_refused(ins(15) * 65)


class IllFormed(unittest.TestCase):
    def check_ill_formed(self, number, *instructions):
        given = ask(
            memory([4]), machine(1, 2, 3, 4, 5, 0), program(ins(5, x=1, k=8)),
            program(*instructions), TELL, BYTES, run(7), TELL)
        self.assertEqual(given[3], [0, 1, number], instructions)
        self.assertEqual(given[4:6], [[0, 1, 2, 3, 4, 5, 0], [0, 4]])
        self.assertEqual(given[6:], [[0, 4, 1], [0, 1, 8, 3, 4, 5, 1]])

    def check_well_formed(self, *instructions):
        self.assertEqual(ask(program(*instructions)), [[0, 0, 0]], instructions)

    def test_each_op_can_be_well_formed(self):
        for op in range(15):
            self.check_well_formed(one(op))

    def test_op_above_14(self):
        for op in (15, 16, 255, 256, 2 ** 32, WORD - 1):
            self.check_ill_formed(0, one(op))

    def test_x_or_y_above_3_in_every_op(self):
        for op in range(15):
            self.check_well_formed(one(op, x=3, y=3))
            for wrong in (4, 5, 256, WORD - 1):
                self.check_ill_formed(0, one(op, x=wrong))
                self.check_ill_formed(0, one(op, y=wrong))

    def test_widths_of_string_instructions(self):
        for op in range(5):
            for width in (1, 2, 4, 8):
                self.check_well_formed(one(op, width=width))
            for width in (0, 3, 5, 6, 7, 9, 16, 257, WORD - 1):
                self.check_ill_formed(0, one(op, width=width))

    def test_rep_of_string_instructions(self):
        for op in range(5):
            for rep in (0, 1, 2):
                self.check_well_formed(one(op, rep=rep))
            for rep in (3, 4, 256, WORD - 1):
                self.check_ill_formed(0, one(op, rep=rep))

    def test_widths_of_turning_instructions(self):
        for op in (10, 11, 14):
            for width in (2, 4, 8):
                self.check_well_formed(one(op, width=width))
            for width in (0, 1, 3, 5, 6, 7, 9, 16, 258, WORD - 1):
                self.check_ill_formed(0, one(op, width=width))

    def test_cond(self):
        for cond in range(7):
            self.check_well_formed(one(9, cond=cond))
        for cond in (7, 8, 256, WORD - 1):
            self.check_ill_formed(0, one(9, cond=cond))

    def test_to(self):
        stops = [ins(13)] * 3
        for to in range(4):
            self.check_well_formed(one(9, to=to), *stops)
            self.check_well_formed(*stops, one(9, to=to))
        for to in (4, 5, 64, WORD - 1):
            self.check_ill_formed(0, one(9, to=to), *stops)
            self.check_ill_formed(3, *stops, one(9, to=to))
        self.check_well_formed(*[one(9, to=63)] * 64)
        self.check_ill_formed(0, *[one(9, to=64)] * 64)

    def test_fields_that_are_not_named_say_nothing(self):
        for op in range(15):
            for field in FIELD_NAMES[1:]:
                if field in ("x", "y") or field in JUDGED[op]:
                    continue
                self.check_well_formed(one(op, **{field: WORD - 1}))

    def test_the_first_of_several(self):
        self.check_ill_formed(1, ins(13), one(0, width=3), one(15), one(12, x=4))
        self.check_ill_formed(0, one(9, cond=7), one(15))
        self.check_ill_formed(2, ins(13), ins(8), one(15), one(15))
        self.check_ill_formed(63, *[ins(13)] * 63, one(10, width=1))


if __name__ == "__main__":
    unittest.main()
