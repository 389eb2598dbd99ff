"""Calls written as small lists, and answers taken apart again."""

from stringdeeds.memory import answers

WORD = 2 ** 64
WIDTHS = (1, 2, 4, 8)

MOVS, STOS, LODS, SCAS, CMPS = range(5)
C, P, A, Z, S, D, O = 1, 4, 16, 64, 128, 1024, 2048

TELL = [6]
BYTES = [7]


def memory(data):
    return [1, len(data), *data]


def machine(a=0, c=0, si=0, di=0, flags=0, at=0):
    return [2, a, c, si, di, flags, at]


def program(*instructions):
    numbers = [number for one in instructions for number in one]
    return [3, len(numbers), *numbers]


def ins(op, width=0, rep=0, cond=0, to=0, x=0, y=0, k=0):
    return [op, width, rep, cond, to, x, y, k]


def do(op, width, rep, most):
    return [4, op, width, rep, most]


def run(steps):
    return [5, steps]


def copy(dst, src, n, width, down):
    return [8, dst, src, n, width, down]


def fill(dst, n, width, v):
    return [9, dst, n, width, v]


def split(given):
    parts = []
    place = 0
    while place < len(given):
        length = given[place]
        assert length >= 1 and place + 1 + length <= len(given), given
        parts.append(given[place + 1:place + 1 + length])
        place += 1 + length
    return parts


def ask(*calls):
    """One answer for each call, all of them on one new object."""
    parts = split(answers([number for call in calls for number in call]))
    assert len(parts) == len(calls), (len(parts), len(calls))
    return parts
