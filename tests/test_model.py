"""Long mixed lists of calls, held against a second, plainer reading of the document."""

import random
import unittest

from tests.lists import (BYTES, TELL, WORD, ask, copy, count, differ, do, echo, fill, first, first_of_fewest, last,
                         machine, memory, pack, program, run, swap, turn, unpack)

NAMES = "a", "c", "si", "di"
BITS = {"C": 0, "P": 2, "A": 4, "Z": 6, "S": 7, "D": 10, "O": 11}


class Model:
    def __init__(self):
        self.bytes = bytearray()
        self.a = self.c = self.si = self.di = self.flags = self.at = 0
        self.program = []

    def bit(self, name):
        return self.flags >> BITS[name] & 1

    def set_bit(self, name, value):
        self.flags = self.flags & ~(1 << BITS[name]) | bool(value) << BITS[name]

    def there(self, place, width):
        return place + width <= len(self.bytes)

    def read(self, place, width, order="little"):
        return int.from_bytes(self.bytes[place:place + width], order)

    def write(self, place, width, number, order="little"):
        self.bytes[place:place + width] = (number % 256 ** width).to_bytes(width, order)

    def into(self, name, width, number):
        old = getattr(self, name).to_bytes(8, "little")
        new = number.to_bytes(width, "little")
        kept = {1: old[1:], 2: old[2:], 4: bytes(4), 8: b""}[width]
        setattr(self, name, int.from_bytes(new + kept, "little"))

    def compared(self, left, right, width):
        def signed(number):
            return int.from_bytes(number.to_bytes(width, "little"), "little", signed=True)
        d = (left - right) % 256 ** width
        for name, value in (("C", left < right), ("A", left % 16 < right % 16), ("Z", d == 0),
                            ("S", d >> width * 8 - 1), ("P", bin(d % 256).count("1") % 2 == 0),
                            ("O", signed(left) - signed(right) != signed(d))):
            self.set_bit(name, value)

    def needed(self, op):
        return {0: (self.si, self.di), 1: (self.di,), 2: (self.si,), 3: (self.di,), 4: (self.si, self.di)}[op]

    def element(self, op, w):
        if op == 0:
            self.write(self.di, w, self.read(self.si, w))
        if op == 1:
            self.write(self.di, w, self.a)
        if op == 2:
            self.into("a", w, self.read(self.si, w))
        if op == 3:
            self.compared(self.a % 256 ** w, self.read(self.di, w), w)
        if op == 4:
            self.compared(self.read(self.si, w), self.read(self.di, w), w)
        moved = -w if self.bit("D") else w
        if op in (0, 2, 4):
            self.si = (self.si + moved) % WORD
        if op != 2:
            self.di = (self.di + moved) % WORD

    def do(self, op, width, rep, most):
        for done in range(most + 1):
            if rep and self.c == 0:
                return [0, done]
            if done == most:
                return [1, done]
            if not all(self.there(place, width) for place in self.needed(op)):
                return [3, done]
            self.element(op, width)
            if not rep:
                return [0, done + 1]
            self.c -= 1
            if op > 2 and self.bit("Z") == rep - 1:
                return [0, done + 1]

    def run(self, steps):
        done = 0
        while True:
            if self.at >= len(self.program):
                return [4, done]
            op, width, rep, cond, to, x, y, k = self.program[self.at]
            x, y = NAMES[x], NAMES[y]
            if op == 13:
                return [0, done]
            if done == steps:
                return [1, done]
            if op < 5:
                ended, count = self.do(op, width, rep, steps - done)
                if ended:
                    return [ended, done + count]
                done += max(1, count)
                self.at += 1
                continue
            if op in (11, 14) and not self.there(self.si if op == 11 else self.di, width):
                return [3, done]
            done += 1
            if op == 9:
                holds = (True, self.bit("Z"), not self.bit("Z"), self.bit("C"), not self.bit("C"),
                         self.c == 0, self.c != 0)[cond]
                self.at = to if holds else self.at + 1
                continue
            self.at += 1
            self.plain(op, width, x, y, k)

    def plain(self, op, width, x, y, k):
        own, other = getattr(self, x), getattr(self, y)
        if op == 5:
            setattr(self, x, k)
        if op == 6:
            setattr(self, x, (own + k) % WORD)
        if op == 7:
            setattr(self, x, other)
        if op == 8:
            self.set_bit("D", k & 1)
        if op == 10:
            lowest = own.to_bytes(8, "little")[:width]
            self.into(x, width, int.from_bytes(lowest, "big"))
        if op == 11:
            self.into(x, width, self.read(self.si, width, "big"))
        if op == 12:
            setattr(self, x, other)
            setattr(self, y, own)
        if op == 14:
            self.write(self.di, width, own, "big")

    def row(self, place, n, width):
        return min(place, n) >= 0 and width in (1, 2, 4, 8) and place + n * width <= len(self.bytes)

    def answer(self, call):
        return getattr(self, f"call_{call[0]}")(*call[1:])

    def call_1(self, length, *data):
        if length > 256 or any(number not in range(256) for number in data):
            return [-1]
        self.bytes = bytearray(data)
        return [0]

    def call_2(self, *numbers):
        limits = (64, 64, 64, 64, 32, 32)
        if any(not 0 <= number < 1 << limit for number, limit in zip(numbers, limits)):
            return [-1]
        self.a, self.c, self.si, self.di, self.flags, self.at = numbers
        return [0]

    def call_3(self, length, *numbers):
        if length % 8 or length > 512 or any(not 0 <= number < WORD for number in numbers):
            return [-1]
        instructions = [numbers[i:i + 8] for i in range(0, length, 8)]
        for i, (op, width, rep, cond, to, x, y, k) in enumerate(instructions):
            well = op <= 14 and x <= 3 and y <= 3
            if op <= 4:
                well = well and width in (1, 2, 4, 8) and rep <= 2
            if op in (10, 11, 14):
                well = well and width in (2, 4, 8)
            if op == 9:
                well = well and cond <= 6 and to < len(instructions)
            if not well:
                return [0, 1, i]
        self.program = instructions
        return [0, 0, 0]

    def call_4(self, op, width, rep, most):
        if op not in range(5) or width not in (1, 2, 4, 8) or rep not in range(3) or most not in range(10001):
            return [-1]
        return [0, *self.do(op, width, rep, most)]

    def call_5(self, steps):
        return [0, *self.run(steps)] if steps in range(10001) else [-1]

    def call_6(self):
        return [0, self.a, self.c, self.si, self.di, self.flags, self.at]

    def call_7(self):
        return [0, *self.bytes]

    def call_8(self, dst, src, n, width, down):
        if not self.row(dst, n, width) or not self.row(src, n, width) or down not in (0, 1):
            return [-1]
        for i in list(range(n))[::-1 if down else 1]:
            self.write(dst + i * width, width, self.read(src + i * width, width))
        return [0]

    def call_9(self, dst, n, width, v):
        if not self.row(dst, n, width) or not 0 <= v < WORD:
            return [-1]
        for i in range(n):
            self.write(dst + i * width, width, v)
        return [0]

    def call_10(self, at, period, n):
        if not self.row(at, n, 1) or not 1 <= period <= at:
            return [-1]
        for place in range(at, at + n):
            self.bytes[place] = self.bytes[place - period]
        return [0]

    def parts(self, place, n, width):
        return [bytes(self.bytes[place + i * width:place + i * width + width]) for i in range(n)]

    def found(self, at, n, width, v, alike):
        if not self.row(at, n, width) or not 0 <= v < WORD or alike not in (0, 1):
            return None
        lowest = v.to_bytes(8, "little")[:width]
        return [i for i, part in enumerate(self.parts(at, n, width)) if (part == lowest) == bool(alike)]

    def call_11(self, at, n, width, v, alike):
        found = self.found(at, n, width, v, alike)
        return [-1] if found is None else [0, (found + [n])[0]]

    def call_12(self, at, n, width, v, alike):
        found = self.found(at, n, width, v, alike)
        return [-1] if found is None else [0, ([n] + found)[-1]]

    def call_13(self, x, y, n, width, down):
        if not self.row(x, n, width) or not self.row(y, n, width) or down not in (0, 1):
            return [-1]
        pairs = zip(self.parts(x, n, width), self.parts(y, n, width))
        unlike = [i for i, (one, other) in enumerate(pairs) if one != other]
        return [0, unlike[-down] if unlike else n]

    def call_14(self, at, n, width, v):
        found = self.found(at, n, width, v, 1)
        return [-1] if found is None else [0, len(found)]

    def call_15(self, at, n, width):
        if not self.row(at, n, width):
            return [-1]
        self.bytes[at:at + n * width] = b"".join(reversed(self.parts(at, n, width)))
        return [0]

    def call_16(self, at, n, width):
        if not self.row(at, n, width):
            return [-1]
        self.bytes[at:at + n * width] = b"".join(part[::-1] for part in self.parts(at, n, width))
        return [0]

    def call_17(self, room, length, *data):
        if room not in range(4097) or length > 256 or any(number not in range(256) for number in data):
            return [-1]
        left, made = list(data), []
        while left:
            b = left.pop(0)
            needs, makes = (b + 1, b + 1) if b < 128 else (1, b - 125) if b < 192 else (2, b - 189)
            if len(left) < needs:
                return [-2]
            taken, left = left[:needs], left[needs:]
            if b < 128:
                made += taken
            elif b < 192:
                made += taken * makes
            else:
                p = taken[0] + 256 * taken[1]
                if p == 0 or p > len(made):
                    return [-3]
                made += (made[-p:] * makes)[:makes]
            if len(made) > room:
                return [-4]
        return [0, *made]

    def call_18(self, length, *data):
        if length > 64 or any(number not in range(256) for number in data):
            return [-1]
        return [0, *first_of_fewest(list(data))]


class Maker:
    """Calls that mostly hold, from a fixed seed."""

    def __init__(self, seed):
        self.random = random.Random(seed)

    def mostly(self, *usual):
        if self.random.randrange(60) == 0:
            return self.random.choice((-1, 3, 5, 9, 257, 10001, 2 ** 32, WORD - 1, WORD, -2 * WORD, 2 * WORD - 1))
        return self.random.choice(usual)

    def width(self):
        return self.mostly(1, 2, 4, 8)

    def place(self):
        return self.mostly(*range(24))

    def value(self):
        return self.mostly(0, 1, 3, 128, 255, 256, self.random.getrandbits(64), WORD - 1, WORD - 8)

    def call_memory(self):
        usual = self.random.choice(([0, 1], [7], range(256)))
        return memory([self.random.choice(usual) for i in range(self.random.choice((0, 3, 16, 40, 40, 256)))])

    def call_machine(self):
        flags = self.mostly(0, 64, 1024, 1088, self.random.getrandbits(32))
        return machine(self.value(), self.mostly(0, 1, 2, 5, 30, WORD - 1), self.place(), self.place(), flags,
                       self.mostly(0, 0, 0, 1, 4))

    def instruction(self, how_many):
        op = self.random.randrange(15)
        wide = (2, 4, 8) if op > 4 else (1, 2, 4, 8)
        k = self.value() if op != 5 else self.place()
        return [op, self.random.choice(wide), self.random.randrange(3), self.random.randrange(7),
                self.random.randrange(how_many), self.random.randrange(4), self.random.randrange(4), k % WORD]

    def call_program(self):
        how_many = self.random.randrange(1, 10)
        instructions = [self.instruction(how_many) for i in range(how_many)]
        if self.random.randrange(6) == 0:
            self.random.choice(instructions)[self.random.randrange(8)] = self.random.choice((3, 5, 7, 15, WORD - 1, -1))
        return program(*instructions)

    def call_do(self):
        return do(self.mostly(*range(5)), self.width(), self.mostly(0, 1, 2), self.mostly(0, 1, 2, 3, 100))

    def call_run(self):
        return run(self.mostly(0, 1, 2, 3, 8, 50))

    def call_copy(self):
        return copy(self.place(), self.place(), self.mostly(0, 1, 2, 3, 5), self.width(), self.mostly(0, 1))

    def call_fill(self):
        return fill(self.place(), self.mostly(0, 1, 2, 3), self.width(), self.value())

    def call_echo(self):
        return echo(self.place(), self.mostly(1, 1, 2, 3, 5, 8), self.mostly(0, 1, 2, 5, 9))

    def call_first(self):
        return first(*self.search(), self.mostly(0, 1))

    def call_last(self):
        return last(*self.search(), self.mostly(0, 1))

    def call_count(self):
        return count(*self.search())

    def search(self):
        v = self.mostly(0, 1, 7, 0x0101010101010101, 0x0707070707070707, self.value())
        return self.place(), self.mostly(0, 1, 2, 3, 5), self.width(), v

    def call_differ(self):
        return differ(self.place(), self.place(), self.mostly(0, 1, 2, 3, 5), self.width(), self.mostly(0, 1))

    def call_turn(self):
        return turn(self.place(), self.mostly(0, 1, 2, 3, 5), self.width())

    def call_swap(self):
        return swap(self.place(), self.mostly(0, 1, 2, 3, 5), self.width())

    def command(self):
        n = self.random.randrange(6)
        plain = [n] + [self.byte() for i in range(n + 1)]
        repeat = [self.random.randrange(128, 192), self.byte()]
        back = [self.random.randrange(192, 256), self.mostly(1, 2, 3, 4), self.random.choice((0, 0, 0, 0, 1))]
        return self.random.choice((plain, repeat, back))

    def byte(self):
        return self.random.choice((0, 1, 2, self.random.randrange(256)))

    def call_unpack(self):
        text = [number for i in range(self.random.randrange(6)) for number in self.command()]
        cut = self.random.choice((0, 0, 0, 1))
        return unpack(self.mostly(4096, 4096, 100, 30), text[:len(text) - cut])

    def call_pack(self):
        text = [self.mostly(0, 1, 1, 2) for i in range(self.random.choice((0, 1, 5, 9, 14)))]
        return pack(text)

    def calls(self, how_many):
        makers = [self.call_memory, self.call_machine, self.call_machine, self.call_program, self.call_do,
                  self.call_do, self.call_run, self.call_run, self.call_copy, self.call_fill, self.call_echo,
                  self.call_first, self.call_last, self.call_differ, self.call_count, self.call_turn, self.call_swap,
                  self.call_unpack, self.call_pack]
        return [self.call_memory()] + [self.random.choice(makers)() for i in range(how_many - 1)]


class AgainstTheModel(unittest.TestCase):
    def test_mixed_lists(self):
        for seed in range(600):
            calls = []
            for call in Maker(seed).calls(33):
                calls += [call, TELL, BYTES]
            model = Model()
            for i, (call, given) in enumerate(zip(calls, ask(*calls))):
                self.assertEqual(given, model.answer(call), (seed, i, call))


if __name__ == "__main__":
    unittest.main()
