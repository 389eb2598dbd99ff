"""Calls written as small lists, answers taken apart again, and a second way to pack."""

from stringdeeds.memory import answers

WORD = 2 ** 64
WIDTHS = (1, 2, 4, 8)

# Bytes that all differ from one another.
ROW = list(range(100, 124))

HUGE = (WORD - 1, WORD, 2 * WORD - 1)

# What is no place and no n of a row in ROW, whatever the width is.
WRONG_NUMBERS = (-1, -2, -8, 25, -WORD, -2 * WORD) + HUGE
WRONG_WIDTHS = (-8, -4, -2, -1, 0, 3, 5, 6, 7, 9, 16) + HUGE
WRONG_VALUES = (-1, WORD, WORD + 1, -2 * WORD, 2 * WORD - 1)
WRONG_CHOICES = (-1, 2, 3, -2 * WORD) + HUGE

MOVS, STOS, LODS, SCAS, CMPS = range(5)
C, P, A, Z, S, D, O = 1, 4, 16, 64, 128, 1024, 2048

TELL = [6]
BYTES = [7]


def memory(data):
    return [1, len(data), *data]


def machine(a=0, c=0, si=0, di=0, flags=0, at=0):
    return [2, a, c, si, di, flags, at]


def program(*instructions):
    numbers = [number for one in instructions for number in one]
    return [3, len(numbers), *numbers]


def ins(op, width=0, rep=0, cond=0, to=0, x=0, y=0, k=0):
    return [op, width, rep, cond, to, x, y, k]


def do(op, width, rep, most):
    return [4, op, width, rep, most]


def run(steps):
    return [5, steps]


def copy(dst, src, n, width, down):
    return [8, dst, src, n, width, down]


def fill(dst, n, width, v):
    return [9, dst, n, width, v]


def echo(at, period, n):
    return [10, at, period, n]


def first(at, n, width, v, alike):
    return [11, at, n, width, v, alike]


def last(at, n, width, v, alike):
    return [12, at, n, width, v, alike]


def differ(x, y, n, width, down):
    return [13, x, y, n, width, down]


def count(at, n, width, v):
    return [14, at, n, width, v]


def turn(at, n, width):
    return [15, at, n, width]


def swap(at, n, width):
    return [16, at, n, width]


def unpack(room, data):
    return [17, room, len(data), *data]


def pack(data):
    return [18, len(data), *data]


def split(given):
    parts = []
    place = 0
    while place < len(given):
        length = given[place]
        assert length >= 1 and place + 1 + length <= len(given), given
        parts.append(given[place + 1:place + 1 + length])
        place += 1 + length
    return parts


def ask(*calls):
    """One answer for each call, all of them on one new object."""
    parts = split(answers([number for call in calls for number in call]))
    assert len(parts) == len(calls), (len(parts), len(calls))
    return parts


def after(data, call):
    """What the call answers, and the bytes; nothing else may be otherwise."""
    begin = [1, 2, 3, 4, 1024 + 64, 0]
    given = ask(program(ins(13)), memory(data), machine(*begin), call, BYTES, TELL, run(9))
    assert given[5:] == [[0] + begin, [0, 0, 0]], given
    return given[3], given[4][1:]


def answer(data, call):
    """What a call answers that leaves the bytes, too, as they are."""
    given, left = after(data, call)
    assert left == data, left
    return given


def ways_on(data, place):
    """Each command that makes what comes at this place of data, with the place behind it."""
    ways = []
    for n in range(1, len(data) - place + 1):
        part = data[place:place + n]
        ways.append(([n - 1] + part, place + n))
        if n >= 3 and part == part[:1] * n:
            ways.append(([n + 125, part[0]], place + n))
        if n >= 3:
            ways += [([n + 189, p, 0], place + n) for p in range(1, place + 1) if part == data[place - p:place - p + n]]
    return ways


def first_of_fewest(data):
    """From the beginning on: for each size of a packed text, and each place it comes to, the first such text."""
    ways = [ways_on(data, place) for place in range(len(data))]
    best = {(0, 0): []}
    size = 0
    while (size, len(data)) not in best:
        for place in range(len(data)):
            text = best.get((size, place))
            for way, behind in ways[place] if text is not None else ():
                key = size + len(way), behind
                best[key] = min(best.get(key, text + way), text + way)
        size += 1
    return best[size, len(data)]
