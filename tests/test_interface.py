"""The interface: how calls and answers stand in their lists."""

import unittest

from stringdeeds.memory import UnknownCall, answers
from tests.lists import (WORD, copy, count, differ, do, echo, fill, first, ins, last, machine, memory, pack, program,
                         run, swap, turn, unpack)


class Shapes(unittest.TestCase):
    def test_several_calls_with_refused_ones_among_them(self):
        calls = [
            1, 3, 5, 6, 7,
            1, 2, 5, 256,
            7,
            2, 1, 2, 0, 1, 0, 0,
            2, 1, 2, 3, 4, 5, -1,
            6,
            3, 8, 6, 0, 0, 0, 0, 0, 0, 4,
            3, 8, 15, 0, 0, 0, 0, 0, 0, 4,
            3, 1, 0,
            4, 0, 1, 1, 1,
            4, 0, 1, 1, -1,
            5, 1,
            5, -1,
            8, 0, 1, 2, 1, 0,
            8, 0, 1, 3, 1, 0,
            9, 0, 1, 1, 300,
            9, 0, 1, 1, -1,
            7,
            6,
        ]
        self.assertEqual(answers(calls), [
            1, 0,
            1, -1,
            4, 0, 5, 6, 7,
            1, 0,
            1, -1,
            7, 0, 1, 2, 0, 1, 0, 0,
            3, 0, 0, 0,
            3, 0, 1, 0,
            1, -1,
            3, 0, 1, 1,
            1, -1,
            3, 0, 4, 1,
            1, -1,
            1, 0,
            1, -1,
            1, 0,
            1, -1,
            4, 0, 44, 7, 7,
            7, 0, 5, 1, 1, 2, 0, 1,
        ])

    def test_calls_of_all_kinds_with_refused_ones_among_them(self):
        calls = [
            1, 8, 1, 2, 3, 4, 5, 6, 7, 8,
            10, 4, 2, 3,
            10, 4, 5, 3,
            7,
            11, 0, 8, 1, 3, 1,
            11, 0, 8, 1, 3, 2,
            12, 0, 8, 1, 259, 1,
            12, 0, 9, 1, 3, 1,
            13, 2, 4, 4, 1, 0,
            13, 2, 4, 4, 1, 1,
            13, 2, 5, 4, 1, 1,
            14, 0, 8, 1, 3,
            14, 0, 8, 3, 3,
            15, 1, 3, 2,
            15, 1, -1, 2,
            16, 0, 1, 4,
            16, 5, 1, 4,
            7,
            17, 9, 6, 1, 8, 9, 193, 2, 0,
            17, 9, 0,
            17, 9, 1, 0,
            17, 9, 3, 192, 1, 0,
            17, 2, 2, 128, 5,
            17, -1, 2, 128, 5,
            18, 4, 6, 6, 6, 6,
            18, 0,
            18, 2, 6, 256,
            2, 9, 1, 0, 1, 0, 0,
            2, 9, 1, 0, 1, -1, 0,
            3, 16, 1, 1, 0, 0, 0, 0, 0, 0, 13, 0, 0, 0, 0, 0, 0, 0,
            3, 1, 0,
            4, 2, 2, 1, 5,
            4, 2, 3, 1, 5,
            5, 9,
            5, 10001,
            6,
            8, 3, 2, 4, 1, 0,
            8, 3, 2, 6, 1, 0,
            9, 0, 1, 2, 0x010203,
            9, 0, 1, 2, -1,
            1, 1, 256,
            7,
        ]
        self.assertEqual(answers(calls), [
            1, 0,
            1, 0,
            1, -1,
            9, 0, 1, 2, 3, 4, 3, 4, 3, 8,
            2, 0, 2,
            1, -1,
            2, 0, 6,
            1, -1,
            2, 0, 3,
            2, 0, 3,
            1, -1,
            2, 0, 3,
            1, -1,
            1, 0,
            1, -1,
            1, 0,
            1, -1,
            9, 0, 4, 3, 4, 1, 3, 2, 3, 8,
            7, 0, 8, 9, 8, 9, 8, 9,
            1, 0,
            1, -2,
            1, -3,
            1, -4,
            1, -1,
            3, 0, 129, 6,
            1, 0,
            1, -1,
            1, 0,
            1, -1,
            3, 0, 0, 0,
            1, -1,
            3, 0, 0, 1,
            1, -1,
            3, 0, 0, 1,
            1, -1,
            7, 0, 772, 0, 2, 2, 0, 1,
            1, 0,
            1, -1,
            1, 0,
            1, -1,
            1, -1,
            9, 0, 3, 2, 4, 4, 4, 4, 4, 8,
        ])

    def test_one_call(self):
        self.assertEqual(answers([6]), [7, 0, 0, 0, 0, 0, 0, 0])
        self.assertEqual(answers([7]), [1, 0])
        self.assertEqual(answers([1, 0]), [1, 0])
        self.assertEqual(answers([3, 0]), [3, 0, 0, 0])

    def test_numbers_that_no_call_has(self):
        for wrong in (0, 19, -1, WORD):
            with self.assertRaises(UnknownCall):
                answers([6, wrong])

    def test_lists_of_refused_calls_are_passed_over_whole(self):
        calls = [1, 400] + [6] * 400 + [3, 700] + [7] * 700 + [1, 1, -2 * WORD, 7]
        self.assertEqual(answers(calls), [1, -1, 1, -1, 1, -1, 1, 0])
        calls = [17, 5, 400] + [6] * 400 + [18, 200] + [7] * 200 + [17, -2 * WORD, 1, 2 * WORD - 1, 7]
        self.assertEqual(answers(calls), [1, -1, 1, -1, 1, -1, 1, 0])

    def test_a_hundred_calls(self):
        self.assertEqual(answers([6] * 100), [7, 0, 0, 0, 0, 0, 0, 0] * 100)
        self.assertEqual(answers(memory([1] * 120) * 100), [1, 0] * 100)
        self.assertEqual(answers(pack([1] * 63 + [2]) * 100), [5, 0, 188, 1, 0, 2] * 100)
        # Of the longest answers a hundred: each is 4096 bytes.
        long_text = [191, 8] * 62 + [129, 8]
        self.assertEqual(answers(unpack(4096, long_text) * 100), ([4097, 0] + [8] * 4096) * 100)

    def test_a_hundred_calls_of_all_kinds(self):
        kinds = [memory([1, 2, 3]), machine(1, 2), program(ins(13)), do(0, 1, 0, 1), run(1), [6], [7],
                 copy(0, 1, 1, 1, 0), fill(0, 1, 1, 5), echo(1, 1, 1), first(0, 3, 1, 3, 1), last(0, 3, 1, 5, 1),
                 differ(0, 1, 1, 1, 0), count(0, 3, 1, 5), turn(0, 3, 1), swap(0, 1, 2), unpack(9, [0, 7]), pack([7])]
        self.assertEqual([call[0] for call in kinds], list(range(1, 19)))
        once = [1, 0, 1, 0, 3, 0, 0, 0, 3, 0, 0, 1, 3, 0, 0, 0, 7, 0, 1, 2, 1, 1, 0, 0, 4, 0, 1, 2, 3,
                1, 0, 1, 0, 1, 0, 2, 0, 2, 2, 0, 1, 2, 0, 1, 2, 0, 2, 1, 0, 1, 0, 2, 0, 7, 3, 0, 0, 7]
        calls = [number for call in kinds for number in call]
        self.assertEqual(answers(calls * 5), once * 5)
        self.assertEqual(answers(calls * 5 + [6] * 10), once * 5 + [7, 0, 1, 2, 1, 1, 0, 0] * 10)

    def test_a_hundred_long_runs(self):
        calls = program(ins(9)) + run(10000) * 99
        self.assertEqual(answers(calls), [3, 0, 0, 0] + [3, 0, 1, 10000] * 99)

    def test_answers_are_whole_numbers_in_a_list(self):
        given = answers(memory([1, 1]) + machine(c=2, flags=1024) + do(4, 1, 1, 5) + [6, 7] + first(0, 2, 1, 1, 0)
                        + last(0, 2, 1, 1, 1) + differ(0, 1, 1, 1, 1) + count(0, 2, 1, 1) + unpack(9, [0, 1])
                        + pack([1, 1]))
        self.assertIs(type(given), list)
        for number in given:
            self.assertIs(type(number), int)


class NothingIsKept(unittest.TestCase):
    CALLS = (memory([1, 2, 3]) + machine(9, 2, 0, 1) + program(ins(6, k=1), ins(13)) + do(0, 1, 1, 9)
             + fill(0, 1, 1, 8) + run(5) + echo(1, 1, 2) + turn(0, 3, 1) + swap(1, 1, 2) + first(0, 3, 1, 8, 1)
             + differ(0, 1, 2, 1, 0) + count(0, 3, 1, 8) + unpack(99, [1, 1, 2, 255, 2, 0]) + pack([1, 2, 1, 2, 1, 2])
             + unpack(2, [128, 1]) + pack([256]) + [6, 7])

    def test_what_is_handed_in_is_as_it_was(self):
        calls = list(self.CALLS)
        answers(calls)
        self.assertEqual(calls, self.CALLS)

    def test_not_changed_for_a_while_either(self):
        class Guarded(list):
            def refuse(self, *given):
                raise AssertionError("the list that was handed in is changed")

            __setitem__ = __delitem__ = __iadd__ = __imul__ = refuse
            append = extend = insert = pop = remove = clear = sort = reverse = refuse

        self.assertEqual(answers(Guarded(self.CALLS)), answers(self.CALLS))

    def test_two_lists_do_not_know_of_one_another(self):
        given = answers(list(self.CALLS))
        self.assertEqual(answers([6, 7] + run(3)), [7, 0, 0, 0, 0, 0, 0, 0, 1, 0, 3, 0, 4, 0])
        self.assertEqual(answers(list(self.CALLS)), given)

    def test_what_is_given_back_is_the_callers_own(self):
        given = answers([1, 1, 5, 7, 6])
        given.clear()
        self.assertEqual(answers([1, 1, 5, 7, 6]), [1, 0, 2, 0, 5, 7, 0, 0, 0, 0, 0, 0, 0])


if __name__ == "__main__":
    unittest.main()
