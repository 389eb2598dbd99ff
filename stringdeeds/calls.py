"""The calls: each refuses what is not as told, or does its work and answers."""

from stringdeeds.cells import SIZES
from stringdeeds.machine import REG_SIZE
from stringdeeds.programs import FIELDS, first_ill_formed, instructions_of, run_program
from stringdeeds.rows import copy_row, fill_row, is_row
from stringdeeds.strings import DEEDS, do_string

REFUSED = -1
DONE = 0

MOST_BYTES = 256
BYTE_SIZE = 256
HALF_SIZE = 4294967296
MOST_INSTRUCTIONS = 64
MOST_STEPS = 10000


def are_below(numbers, limit):
    return all([0 <= number < limit for number in numbers])


def call_memory(machine, numbers, data):
    if len(data) > MOST_BYTES or not are_below(data, BYTE_SIZE):
        return [REFUSED]
    machine.cells = list(data)
    return [DONE]


def call_machine(machine, numbers, data):
    if not are_below(numbers[:4], REG_SIZE) or not are_below(numbers[4:], HALF_SIZE):
        return [REFUSED]
    machine.regs = numbers[:4]
    machine.flags = numbers[4]
    machine.at = numbers[5]
    return [DONE]


def call_program(machine, numbers, data):
    if len(data) % FIELDS != 0 or len(data) > MOST_INSTRUCTIONS * FIELDS or not are_below(data, REG_SIZE):
        return [REFUSED]
    instructions = instructions_of(data)
    ill_formed = first_ill_formed(instructions)
    if ill_formed is not None:
        return [DONE, 1, ill_formed]
    machine.program = instructions
    return [DONE, 0, 0]


def call_do(machine, numbers, data):
    op = numbers[0]
    width = numbers[1]
    rep = numbers[2]
    most = numbers[3]
    if not 0 <= op < len(DEEDS) or width not in SIZES:
        return [REFUSED]
    if not 0 <= rep <= 2 or not 0 <= most <= MOST_STEPS:
        return [REFUSED]
    outcome = do_string(machine, op, width, rep, most)
    return [DONE, outcome[0], outcome[1]]


def call_run(machine, numbers, data):
    steps = numbers[0]
    if not 0 <= steps <= MOST_STEPS:
        return [REFUSED]
    outcome = run_program(machine, steps)
    return [DONE, outcome[0], outcome[1]]


def call_tell(machine, numbers, data):
    return [DONE] + machine.regs + [machine.flags, machine.at]


def call_memory_bytes(machine, numbers, data):
    return [DONE] + machine.cells


def call_copy(machine, numbers, data):
    dst = numbers[0]
    src = numbers[1]
    n = numbers[2]
    width = numbers[3]
    down = numbers[4]
    if not is_row(machine.cells, dst, n, width) or not is_row(machine.cells, src, n, width):
        return [REFUSED]
    if not 0 <= down <= 1:
        return [REFUSED]
    copy_row(machine.cells, dst, src, n, width, down == 1)
    return [DONE]


def call_fill(machine, numbers, data):
    dst = numbers[0]
    n = numbers[1]
    width = numbers[2]
    value = numbers[3]
    if not is_row(machine.cells, dst, n, width) or not 0 <= value < REG_SIZE:
        return [REFUSED]
    fill_row(machine.cells, dst, n, width, value)
    return [DONE]


# By a call's number: how many whole numbers it has, how many lists, and what does it.
CALLS = {
    1: (0, 1, call_memory),
    2: (6, 0, call_machine),
    3: (0, 1, call_program),
    4: (4, 0, call_do),
    5: (1, 0, call_run),
    6: (0, 0, call_tell),
    7: (0, 0, call_memory_bytes),
    8: (5, 0, call_copy),
    9: (4, 0, call_fill),
}
