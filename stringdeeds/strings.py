"""The string instructions: one element of each, and elements repeated."""

from stringdeeds.cells import SIZES, has_element, number_at, put_number
from stringdeeds.comparing import compare
from stringdeeds.machine import BIT_D, BIT_Z, FINISHED, MOST_DONE, NO_MEMORY
from stringdeeds.machine import REG_A, REG_C, REG_DI, REG_SI
from stringdeeds.machine import add_to_reg, is_set, write_by_width

# Which of the instructions 0 to 4 need an element at si, and which one at di.
NEED_SI = (0, 2, 4)
NEED_DI = (0, 1, 3, 4)

# Of these alone Z ends the repeating: scas and cmps.
COMPARING = (3, 4)


def number_at_reg(machine, which, width):
    return number_at(machine.cells, machine.regs[which], width)


def lowest_of_a(machine, width):
    return machine.regs[REG_A] % SIZES[width]


def move_on(machine, which, width):
    add_to_reg(machine, which, -width if is_set(machine, BIT_D) else width)


def movs(machine, width):
    number = number_at_reg(machine, REG_SI, width)
    put_number(machine.cells, machine.regs[REG_DI], width, number)
    move_on(machine, REG_SI, width)
    move_on(machine, REG_DI, width)


def stos(machine, width):
    put_number(machine.cells, machine.regs[REG_DI], width, machine.regs[REG_A])
    move_on(machine, REG_DI, width)


def lods(machine, width):
    write_by_width(machine, REG_A, width, number_at_reg(machine, REG_SI, width))
    move_on(machine, REG_SI, width)


def scas(machine, width):
    compare(machine, lowest_of_a(machine, width), number_at_reg(machine, REG_DI, width), width)
    move_on(machine, REG_DI, width)


def cmps(machine, width):
    left = number_at_reg(machine, REG_SI, width)
    right = number_at_reg(machine, REG_DI, width)
    compare(machine, left, right, width)
    move_on(machine, REG_SI, width)
    move_on(machine, REG_DI, width)


# In the order of their numbers.
DEEDS = (movs, stos, lods, scas, cmps)


def lacks_element(machine, op, width):
    if op in NEED_SI and not has_element(machine.cells, machine.regs[REG_SI], width):
        return True
    return op in NEED_DI and not has_element(machine.cells, machine.regs[REG_DI], width)


def is_ended_by_comparison(machine, op, rep):
    if op not in COMPARING:
        return False
    alike = is_set(machine, BIT_Z)
    return not alike if rep == 1 else alike


# Gives how it ended and how many elements were done: a call answers both, and a run counts them.
def do_string(machine, op, width, rep, most):
    deed = DEEDS[op]
    done = 0
    while True:
        if rep != 0 and machine.regs[REG_C] == 0:
            return (FINISHED, done)
        if done == most:
            return (MOST_DONE, done)
        if lacks_element(machine, op, width):
            return (NO_MEMORY, done)
        deed(machine, width)
        done += 1
        if rep == 0:
            return (FINISHED, done)
        machine.regs[REG_C] -= 1
        if is_ended_by_comparison(machine, op, rep):
            return (FINISHED, done)
