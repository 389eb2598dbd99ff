"""The calls: each refuses what is not as told, or does its work and answers."""

from stringdeeds.cells import SIZES
from stringdeeds.machine import REG_SIZE
from stringdeeds.packing import UNPACKED, pack_text, unpack_text
from stringdeeds.programs import FIELDS, first_ill_formed, instructions_of, run_program
from stringdeeds.rows import copy_row, count_in_row, fill_row, find_difference, find_in_row, is_row, swap_row, turn_row
from stringdeeds.strings import DEEDS, do_string

REFUSED = -1
DONE = 0

MOST_BYTES = 256
MOST_PACKED = 256
MOST_ROOM = 4096
MOST_TO_PACK = 64
BYTE_SIZE = 256
HALF_SIZE = 4294967296
MOST_INSTRUCTIONS = 64
MOST_STEPS = 10000


def are_below(numbers, limit):
    return all([0 <= number < limit for number in numbers])


def are_bytes(data, most):
    return len(data) <= most and are_below(data, BYTE_SIZE)


def call_memory(machine, numbers, data):
    if not are_bytes(data, MOST_BYTES):
        return [REFUSED]
    machine.cells = list(data)
    return [DONE]


def call_machine(machine, numbers, data):
    if not are_below(numbers[:4], REG_SIZE) or not are_below(numbers[4:], HALF_SIZE):
        return [REFUSED]
    machine.regs = numbers[:4]
    machine.flags = numbers[4]
    machine.at = numbers[5]
    return [DONE]


def call_program(machine, numbers, data):
    if len(data) % FIELDS != 0 or len(data) > MOST_INSTRUCTIONS * FIELDS or not are_below(data, REG_SIZE):
        return [REFUSED]
    instructions = instructions_of(data)
    ill_formed = first_ill_formed(instructions)
    if ill_formed is not None:
        return [DONE, 1, ill_formed]
    machine.program = instructions
    return [DONE, 0, 0]


def call_do(machine, numbers, data):
    op = numbers[0]
    width = numbers[1]
    rep = numbers[2]
    most = numbers[3]
    if not 0 <= op < len(DEEDS) or width not in SIZES:
        return [REFUSED]
    if not 0 <= rep <= 2 or not 0 <= most <= MOST_STEPS:
        return [REFUSED]
    outcome = do_string(machine, op, width, rep, most)
    return [DONE, outcome[0], outcome[1]]


def call_run(machine, numbers, data):
    steps = numbers[0]
    if not 0 <= steps <= MOST_STEPS:
        return [REFUSED]
    outcome = run_program(machine, steps)
    return [DONE, outcome[0], outcome[1]]


def call_tell(machine, numbers, data):
    return [DONE] + machine.regs + [machine.flags, machine.at]


def call_memory_bytes(machine, numbers, data):
    return [DONE] + machine.cells


def are_two_rows(cells, one, other, n, width):
    return is_row(cells, one, n, width) and is_row(cells, other, n, width)


def call_copy(machine, numbers, data):
    dst = numbers[0]
    src = numbers[1]
    n = numbers[2]
    width = numbers[3]
    down = numbers[4]
    if not are_two_rows(machine.cells, dst, src, n, width) or not 0 <= down <= 1:
        return [REFUSED]
    copy_row(machine.cells, dst, src, n, width, down == 1)
    return [DONE]


def call_fill(machine, numbers, data):
    dst = numbers[0]
    n = numbers[1]
    width = numbers[2]
    value = numbers[3]
    if not is_row(machine.cells, dst, n, width) or not 0 <= value < REG_SIZE:
        return [REFUSED]
    fill_row(machine.cells, dst, n, width, value)
    return [DONE]


def call_echo(machine, numbers, data):
    at = numbers[0]
    period = numbers[1]
    n = numbers[2]
    if not is_row(machine.cells, at, n, 1) or not 1 <= period <= at:
        return [REFUSED]
    copy_row(machine.cells, at, at - period, n, 1, False)
    return [DONE]


def search(machine, numbers, down):
    at = numbers[0]
    n = numbers[1]
    width = numbers[2]
    value = numbers[3]
    alike = numbers[4]
    if not is_row(machine.cells, at, n, width) or not 0 <= value < REG_SIZE or not 0 <= alike <= 1:
        return [REFUSED]
    return [DONE, find_in_row(machine.cells, at, n, width, value, alike == 1, down)]


def call_first(machine, numbers, data):
    return search(machine, numbers, False)


def call_last(machine, numbers, data):
    return search(machine, numbers, True)


def call_differ(machine, numbers, data):
    x = numbers[0]
    y = numbers[1]
    n = numbers[2]
    width = numbers[3]
    down = numbers[4]
    if not are_two_rows(machine.cells, x, y, n, width) or not 0 <= down <= 1:
        return [REFUSED]
    return [DONE, find_difference(machine.cells, x, y, n, width, down == 1)]


def call_count(machine, numbers, data):
    at = numbers[0]
    n = numbers[1]
    width = numbers[2]
    value = numbers[3]
    if not is_row(machine.cells, at, n, width) or not 0 <= value < REG_SIZE:
        return [REFUSED]
    return [DONE, count_in_row(machine.cells, at, n, width, value)]


def change_row(machine, numbers, change):
    at = numbers[0]
    n = numbers[1]
    width = numbers[2]
    if not is_row(machine.cells, at, n, width):
        return [REFUSED]
    change(machine.cells, at, n, width)
    return [DONE]


def call_turn(machine, numbers, data):
    return change_row(machine, numbers, turn_row)


def call_swap(machine, numbers, data):
    return change_row(machine, numbers, swap_row)


def call_unpack(machine, numbers, data):
    room = numbers[0]
    if not 0 <= room <= MOST_ROOM or not are_bytes(data, MOST_PACKED):
        return [REFUSED]
    outcome = unpack_text(data, room)
    if outcome[0] != UNPACKED:
        return [outcome[0]]
    return [DONE] + outcome[1]


def call_pack(machine, numbers, data):
    if not are_bytes(data, MOST_TO_PACK):
        return [REFUSED]
    return [DONE] + pack_text(data)


# By a call's number: how many whole numbers it has, how many lists, and what does it.
CALLS = {
    1: (0, 1, call_memory),
    2: (6, 0, call_machine),
    3: (0, 1, call_program),
    4: (4, 0, call_do),
    5: (1, 0, call_run),
    6: (0, 0, call_tell),
    7: (0, 0, call_memory_bytes),
    8: (5, 0, call_copy),
    9: (4, 0, call_fill),
    10: (3, 0, call_echo),
    11: (5, 0, call_first),
    12: (5, 0, call_last),
    13: (5, 0, call_differ),
    14: (4, 0, call_count),
    15: (3, 0, call_turn),
    16: (3, 0, call_swap),
    17: (1, 1, call_unpack),
    18: (0, 1, call_pack),
}
