"""The object that calls work on: memory, registers, flags, at and a program."""

from stringdeeds.cells import SIZES

# How many different numbers a register can hold.
REG_SIZE = 18446744073709551616

# Where the registers stand in the machine's list, as programs name them.
REG_A = 0
REG_C = 1
REG_SI = 2
REG_DI = 3

BIT_C = 1
BIT_P = 4
BIT_A = 16
BIT_Z = 64
BIT_S = 128
BIT_D = 1024
BIT_O = 2048

# How an instruction or a run ends.
FINISHED = 0
MOST_DONE = 1
NO_MEMORY = 3
NO_INSTRUCTION = 4


# Each list of calls makes its own, so nothing is kept from one list to the next.
class Machine:
    def __init__(self):
        self.cells = []
        self.regs = [0, 0, 0, 0]
        self.flags = 0
        self.at = 0
        self.program = []


def is_set(machine, bit):
    return machine.flags & bit != 0


def set_down(machine, down):
    machine.flags = machine.flags & ~BIT_D
    if down:
        machine.flags = machine.flags | BIT_D


def add_to_reg(machine, which, number):
    machine.regs[which] = (machine.regs[which] + number) % REG_SIZE


def write_by_width(machine, which, width, number):
    upper = 0
    # Only the narrow widths leave the rest: of 4 bytes the upper half is cleared.
    if width < 4:
        old = machine.regs[which]
        upper = old - old % SIZES[width]
    machine.regs[which] = upper + number
