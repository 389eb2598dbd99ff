"""Programs: what makes an instruction ill-formed, and how a program is run."""

from stringdeeds.cells import SIZES, has_element, number_at, put_number, turned_bytes
from stringdeeds.machine import BIT_C, BIT_Z, FINISHED, MOST_DONE, NO_INSTRUCTION, NO_MEMORY
from stringdeeds.machine import REG_C, REG_DI, REG_SI
from stringdeeds.machine import add_to_reg, is_set, set_down, write_by_width
from stringdeeds.strings import do_string

FIELDS = 8
LAST_STRING_OP = 4
OP_JUMP = 9
OP_LOAD_TURNED = 11
OP_STOP = 13
OP_STORE_TURNED = 14
LAST_OP = 14

# These turn bytes round, which one byte alone doesn't have any use for.
TURNING_OPS = (10, 11, 14)

LAST_REG = 3
LAST_REP = 2
LAST_COND = 6


class Instruction:
    def __init__(self, numbers):
        self.op = numbers[0]
        self.width = numbers[1]
        self.rep = numbers[2]
        self.cond = numbers[3]
        self.to = numbers[4]
        self.x = numbers[5]
        self.y = numbers[6]
        self.k = numbers[7]


def instructions_of(numbers):
    return [Instruction(numbers[i:i + FIELDS]) for i in range(0, len(numbers), FIELDS)]


def is_ill_formed(instruction, how_many):
    op = instruction.op
    if op > LAST_OP or instruction.x > LAST_REG or instruction.y > LAST_REG:
        return True
    if op <= LAST_STRING_OP:
        return instruction.width not in SIZES or instruction.rep > LAST_REP
    if op in TURNING_OPS:
        return instruction.width == 1 or instruction.width not in SIZES
    return op == OP_JUMP and (instruction.cond > LAST_COND or instruction.to >= how_many)


def first_ill_formed(instructions):
    for i in range(len(instructions)):
        if is_ill_formed(instructions[i], len(instructions)):
            return i
    return None


def put_k(machine, instruction):
    machine.regs[instruction.x] = instruction.k


def add_k(machine, instruction):
    add_to_reg(machine, instruction.x, instruction.k)


def take_other(machine, instruction):
    machine.regs[instruction.x] = machine.regs[instruction.y]


def choose_direction(machine, instruction):
    set_down(machine, instruction.k % 2 == 1)


def holds(machine, cond):
    if cond == 0:
        return True
    if cond <= 2:
        return is_set(machine, BIT_Z) == (cond == 1)
    if cond <= 4:
        return is_set(machine, BIT_C) == (cond == 3)
    return (machine.regs[REG_C] == 0) == (cond == 5)


def jump(machine, instruction):
    if holds(machine, instruction.cond):
        machine.at = instruction.to


def turn_own(machine, instruction):
    width = instruction.width
    write_by_width(machine, instruction.x, width, turned_bytes(machine.regs[instruction.x], width))


def load_turned(machine, instruction):
    width = instruction.width
    number = number_at(machine.cells, machine.regs[REG_SI], width)
    write_by_width(machine, instruction.x, width, turned_bytes(number, width))


def exchange(machine, instruction):
    old = machine.regs[instruction.x]
    machine.regs[instruction.x] = machine.regs[instruction.y]
    machine.regs[instruction.y] = old


def store_turned(machine, instruction):
    width = instruction.width
    number = turned_bytes(machine.regs[instruction.x], width)
    put_number(machine.cells, machine.regs[REG_DI], width, number)


# What is neither a string instruction nor a stop.
PLAIN_DEEDS = {
    5: put_k,
    6: add_k,
    7: take_other,
    8: choose_direction,
    9: jump,
    10: turn_own,
    11: load_turned,
    12: exchange,
    14: store_turned,
}


def lacks_memory(machine, instruction):
    if instruction.op == OP_LOAD_TURNED:
        return not has_element(machine.cells, machine.regs[REG_SI], instruction.width)
    if instruction.op == OP_STORE_TURNED:
        return not has_element(machine.cells, machine.regs[REG_DI], instruction.width)
    return False


# Gives how it ended and how many steps it took, as do_string does for elements.
def do_plain(machine, instruction):
    if lacks_memory(machine, instruction):
        return (NO_MEMORY, 0)
    deed = PLAIN_DEEDS[instruction.op]
    # at goes on first, so that a jump has the last word on it.
    machine.at += 1
    deed(machine, instruction)
    return (FINISHED, 1)


# An instruction that isn't finished keeps its place, so that a later run takes it up again.
def do_string_steps(machine, instruction, most):
    outcome = do_string(machine, instruction.op, instruction.width, instruction.rep, most)
    if outcome[0] != FINISHED:
        return outcome
    machine.at += 1
    return (FINISHED, max(outcome[1], 1))


def run_program(machine, steps):
    done = 0
    while True:
        if machine.at >= len(machine.program):
            return (NO_INSTRUCTION, done)
        instruction = machine.program[machine.at]
        if instruction.op == OP_STOP:
            return (FINISHED, done)
        if done == steps:
            return (MOST_DONE, done)
        if instruction.op <= LAST_STRING_OP:
            outcome = do_string_steps(machine, instruction, steps - done)
        else:
            outcome = do_plain(machine, instruction)
        done += outcome[1]
        if outcome[0] != FINISHED:
            return (outcome[0], done)
