"""Promise 17: unpack."""

import unittest

from tests.lists import HUGE, ROW, WORD, answer, ask, unpack


def made(data, room=4096):
    return answer(ROW, unpack(room, data))


class Commands(unittest.TestCase):
    def test_bytes_as_they_are(self):
        self.assertEqual(made([0, 9]), [0, 9])
        self.assertEqual(made([2, 9, 0, 255]), [0, 9, 0, 255])
        self.assertEqual(made([127] + list(range(100, 228))), [0] + list(range(100, 228)))

    def test_a_byte_repeated(self):
        self.assertEqual(made([128, 9]), [0, 9, 9, 9])
        self.assertEqual(made([129, 0]), [0, 0, 0, 0, 0])
        self.assertEqual(made([191, 255]), [0] + [255] * 66)

    def test_an_echo(self):
        self.assertEqual(made([4, 1, 2, 3, 4, 5, 192, 5, 0]), [0, 1, 2, 3, 4, 5, 1, 2, 3])
        self.assertEqual(made([4, 1, 2, 3, 4, 5, 192, 4, 0]), [0, 1, 2, 3, 4, 5, 2, 3, 4])
        self.assertEqual(made([4, 1, 2, 3, 4, 5, 192, 3, 0]), [0, 1, 2, 3, 4, 5, 3, 4, 5])
        self.assertEqual(made([69, *range(70), 255, 70, 0]), [0, *range(70), *range(66)])

    def test_an_echo_that_runs_into_its_own(self):
        self.assertEqual(made([0, 7, 192, 1, 0]), [0, 7, 7, 7, 7])
        self.assertEqual(made([0, 7, 255, 1, 0]), [0] + [7] * 67)
        self.assertEqual(made([2, 6, 7, 8, 192, 1, 0]), [0, 6, 7, 8, 8, 8, 8])
        self.assertEqual(made([2, 6, 7, 8, 194, 2, 0]), [0, 6, 7, 8, 7, 8, 7, 8, 7])
        self.assertEqual(made([2, 6, 7, 8, 255, 3, 0]), [0] + [6, 7, 8] * 23)

    def test_an_echo_of_all_that_was_made(self):
        self.assertEqual(made([0, 5, 0, 6, 0, 7, 192, 3, 0]), [0, 5, 6, 7, 5, 6, 7])
        self.assertEqual(made([128, 4, 0, 5, 193, 4, 0]), [0, 4, 4, 4, 5, 4, 4, 4, 5])

    def test_an_echo_of_what_is_far_away(self):
        begin = [5, 10, 11, 12, 13, 14, 15]
        for runs in (4, 10, 58):
            text = begin + [191, 99] * runs
            bytes_made = begin[1:] + [99] * 66 * runs
            for p in (len(bytes_made), len(bytes_made) - 2, len(bytes_made) - 3):
                place = len(bytes_made) - p
                given = made(text + [192, p % 256, p // 256])
                self.assertEqual(given, [0] + bytes_made + bytes_made[place:place + 3])

    def test_p_of_255_and_256_and_257(self):
        text = [63, *range(64), 191, 90, 191, 91, 191, 92]
        bytes_made = [*range(64), *[90] * 66, *[91] * 66, *[92] * 66]
        for p in (255, 256, 257):
            place = 262 - p
            self.assertEqual(made(text + [193, p % 256, p // 256]), [0] + bytes_made + bytes_made[place:place + 4])

    def test_several_commands(self):
        text = [1, 1, 2, 128, 3, 194, 4, 0, 0, 0, 192, 1, 0]
        self.assertEqual(made(text), [0, 1, 2, 3, 3, 3, 2, 3, 3, 3, 2, 0, 0, 0, 0])

    def test_bytes_that_look_like_commands(self):
        self.assertEqual(made([2, 255, 128, 0, 128, 192]), [0, 255, 128, 0, 192, 192, 192])

    def test_no_commands(self):
        for room in (0, 1, 4096):
            self.assertEqual(made([], room), [0])


class Faults(unittest.TestCase):
    def test_what_it_needs_is_not_all_there(self):
        for begin in ([], [0, 5], [128, 5], [0, 5, 192, 1, 0]):
            for end in ([0], [1], [1, 5], [127], [127] + [5] * 127, [128], [191], [192], [255], [192, 1], [255, 1]):
                self.assertEqual(made(begin + end), [-2], (begin, end))

    def test_p_of_0_or_more_than_were_made(self):
        for begin, how_many in (([], 0), ([0, 5], 1), ([128, 5], 3), ([1, 5, 6, 192, 2, 0], 5), ([191, 1] * 4, 264)):
            for head in (192, 220, 255):
                for p in (0, how_many + 1, how_many + 256, 65535):
                    self.assertEqual(made(begin + [head, p % 256, p // 256]), [-3], (begin, head, p))
                if how_many:
                    self.assertEqual(made(begin + [head, how_many % 256, how_many // 256])[0], 0)

    def test_room(self):
        for text, size in (([0, 5], 1), ([127] + [5] * 128, 128), ([128, 5], 3), ([191, 5], 66),
                           ([0, 5, 192, 1, 0], 4), ([0, 5, 255, 1, 0], 67), ([0, 5, 128, 6, 192, 3, 0, 0, 7], 8)):
            self.assertEqual(len(made(text, size)), 1 + size)
            self.assertEqual(len(made(text, size + 1)), 1 + size)
            self.assertEqual(made(text, size - 1), [-4])
            self.assertEqual(made(text, 0), [-4])

    def test_room_of_4096(self):
        text = [191, 8] * 62
        self.assertEqual(made(text + [129, 9]), [0] + [8] * 4092 + [9] * 4)
        self.assertEqual(made(text + [129, 9], 4095), [-4])
        self.assertEqual(made(text + [130, 9]), [-4])
        self.assertEqual(made(text + [129, 9, 0, 1]), [-4])
        self.assertEqual(made(text + [193, 4092 % 256, 4092 // 256]), [0] + [8] * 4096)
        self.assertEqual(made(text + [194, 4092 % 256, 4092 // 256]), [-4])

    def test_a_command_with_several_faults(self):
        self.assertEqual(made([0], 0), [-2])
        self.assertEqual(made([5, 1, 2], 3), [-2])
        self.assertEqual(made([128], 0), [-2])
        self.assertEqual(made([192], 0), [-2])
        self.assertEqual(made([192, 0], 0), [-2])
        self.assertEqual(made([192, 0, 0], 0), [-3])
        self.assertEqual(made([192, 1, 0], 0), [-3])
        self.assertEqual(made([0, 5, 192, 2, 0], 1), [-3])
        self.assertEqual(made([0, 5, 192, 0, 0], 3), [-3])
        self.assertEqual(made([0, 5, 192, 1, 0], 3), [-4])

    def test_several_commands_with_faults(self):
        not_there, not_made, no_room = [128], [192, 0, 0], [191, 5]
        for room, begin in ((60, []), (60, [0, 5]), (65, [0, 5, 192, 1, 0])):
            self.assertEqual(made(begin + not_made + not_there, room), [-3])
            self.assertEqual(made(begin + not_made + no_room, room), [-3])
            self.assertEqual(made(begin + no_room + not_there, room), [-4])
            self.assertEqual(made(begin + no_room + not_made, room), [-4])
            self.assertEqual(made(begin + no_room + not_made + not_there, room), [-4])

    def test_a_fault_behind_good_commands_leaves_no_bytes(self):
        self.assertEqual(made([2, 1, 2, 3, 0]), [-2])
        self.assertEqual(made([2, 1, 2, 3, 192, 4, 0]), [-3])
        self.assertEqual(made([2, 1, 2, 3, 0, 4], 3), [-4])


class Refused(unittest.TestCase):
    def test_how_many_bytes(self):
        self.assertEqual(made([128, 7] * 128), [0] + [7] * 384)
        self.assertEqual(made([127] + [7] * 128 + [125] + [7] * 126), [0] + [7] * 254)
        for text in ([128, 7] * 128 + [0], [0] * 257, [0, 0] * 129, [192, 0, 0] * 86, [128, 7] * 200):
            self.assertEqual(made(text), [-1])

    def test_room(self):
        for text in ([], [0, 5], [0], [192, 0, 0]):
            for wrong in (-1, 4097, 4098, -4096, -WORD, -2 * WORD) + HUGE:
                self.assertEqual(made(text, wrong), [-1])
        self.assertEqual(made([0, 5], 4096), [0, 5])
        self.assertEqual(made([], 0), [0])

    def test_bytes(self):
        for wrong in (-1, 256, 257, -256, -WORD, -2 * WORD) + HUGE:
            for text in ([wrong], [wrong, 1], [0, wrong], [128, wrong], [0, 5, 192, wrong, 0], [0, 5, 192, 1, wrong],
                         [0, wrong, 0], [0, wrong, 192, 0, 0], [192, 0, 0, wrong], [0, 1, 2, 3, wrong]):
                self.assertEqual(made(text), [-1], text)
                self.assertEqual(made(text, 0), [-1], text)

    def test_memory_is_not_needed(self):
        self.assertEqual(ask(unpack(9, [1, 3, 4]), [7]), [[0, 3, 4], [0]])


if __name__ == "__main__":
    unittest.main()
