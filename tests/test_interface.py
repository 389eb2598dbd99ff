"""The interface: how calls and answers stand in their lists."""

import unittest

from stringdeeds.memory import answers
from tests.lists import WORD, do, fill, ins, machine, memory, program, run


class Shapes(unittest.TestCase):
    def test_several_calls_with_refused_ones_among_them(self):
        calls = [
            1, 3, 5, 6, 7,
            1, 2, 5, 256,
            7,
            2, 1, 2, 0, 1, 0, 0,
            2, 1, 2, 3, 4, 5, -1,
            6,
            3, 8, 6, 0, 0, 0, 0, 0, 0, 4,
            3, 8, 15, 0, 0, 0, 0, 0, 0, 4,
            3, 1, 0,
            4, 0, 1, 1, 1,
            4, 0, 1, 1, -1,
            5, 1,
            5, -1,
            8, 0, 1, 2, 1, 0,
            8, 0, 1, 3, 1, 0,
            9, 0, 1, 1, 300,
            9, 0, 1, 1, -1,
            7,
            6,
        ]
        self.assertEqual(answers(calls), [
            1, 0,
            1, -1,
            4, 0, 5, 6, 7,
            1, 0,
            1, -1,
            7, 0, 1, 2, 0, 1, 0, 0,
            3, 0, 0, 0,
            3, 0, 1, 0,
            1, -1,
            3, 0, 1, 1,
            1, -1,
            3, 0, 4, 1,
            1, -1,
            1, 0,
            1, -1,
            1, 0,
            1, -1,
            4, 0, 44, 7, 7,
            7, 0, 5, 1, 1, 2, 0, 1,
        ])

    def test_one_call(self):
        self.assertEqual(answers([6]), [7, 0, 0, 0, 0, 0, 0, 0])
        self.assertEqual(answers([7]), [1, 0])
        self.assertEqual(answers([1, 0]), [1, 0])
        self.assertEqual(answers([3, 0]), [3, 0, 0, 0])

    def test_lists_of_refused_calls_are_passed_over_whole(self):
        calls = [1, 400] + [6] * 400 + [3, 700] + [7] * 700 + [1, 1, -2 * WORD, 7]
        self.assertEqual(answers(calls), [1, -1, 1, -1, 1, -1, 1, 0])

    def test_a_hundred_calls(self):
        self.assertEqual(answers([6] * 100), [7, 0, 0, 0, 0, 0, 0, 0] * 100)
        self.assertEqual(answers(memory([1] * 120) * 100), [1, 0] * 100)

    def test_a_hundred_long_runs(self):
        calls = program(ins(9)) + run(10000) * 99
        self.assertEqual(answers(calls), [3, 0, 0, 0] + [3, 0, 1, 10000] * 99)

    def test_answers_are_whole_numbers_in_a_list(self):
        given = answers(memory([1, 1]) + machine(c=2, flags=1024) + do(4, 1, 1, 5) + [6, 7])
        self.assertIs(type(given), list)
        for number in given:
            self.assertIs(type(number), int)


class NothingIsKept(unittest.TestCase):
    CALLS = (memory([1, 2, 3]) + machine(9, 2, 0, 1) + program(ins(6, k=1), ins(13)) + do(0, 1, 1, 9)
             + fill(0, 1, 1, 8) + run(5) + [6, 7])

    def test_what_is_handed_in_is_as_it_was(self):
        calls = list(self.CALLS)
        answers(calls)
        self.assertEqual(calls, self.CALLS)

    def test_not_changed_for_a_while_either(self):
        class Guarded(list):
            def refuse(self, *given):
                raise AssertionError("the list that was handed in is changed")

            __setitem__ = __delitem__ = __iadd__ = __imul__ = refuse
            append = extend = insert = pop = remove = clear = sort = reverse = refuse

        self.assertEqual(answers(Guarded(self.CALLS)), answers(self.CALLS))

    def test_two_lists_do_not_know_of_one_another(self):
        first = answers(list(self.CALLS))
        self.assertEqual(answers([6, 7] + run(3)), [7, 0, 0, 0, 0, 0, 0, 0, 1, 0, 3, 0, 4, 0])
        self.assertEqual(answers(list(self.CALLS)), first)

    def test_what_is_given_back_is_the_callers_own(self):
        first = answers([1, 1, 5, 7, 6])
        first.clear()
        self.assertEqual(answers([1, 1, 5, 7, 6]), [1, 0, 2, 0, 5, 7, 0, 0, 0, 0, 0, 0, 0])


if __name__ == "__main__":
    unittest.main()
