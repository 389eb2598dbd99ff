"""The flags that a comparison of two elements leaves."""

from stringdeeds.cells import SIZES
from stringdeeds.machine import BIT_A, BIT_C, BIT_O, BIT_P, BIT_S, BIT_Z

# C, P, A, Z, S and O together: the bits that a comparison doesn't leave as they were.
COMPARED_BITS = 2261


def has_even_ones(byte):
    # Each fold keeps whether the ones are even, and a loop over the bits would be walked for every comparison.
    folded = byte ^ (byte >> 4)
    folded = folded ^ (folded >> 2)
    return (folded ^ (folded >> 1)) % 2 == 0


def with_sign(number, size):
    if number >= size // 2:
        return number - size
    return number


def bits_of_rest(rest, size):
    bits = 0
    if rest == 0:
        bits += BIT_Z
    if rest >= size // 2:
        bits += BIT_S
    if has_even_ones(rest % 256):
        bits += BIT_P
    return bits


def compare(machine, left, right, width):
    size = SIZES[width]
    rest = (left - right) % size
    bits = bits_of_rest(rest, size)
    if left < right:
        bits += BIT_C
    if left % 16 < right % 16:
        bits += BIT_A
    if with_sign(left, size) - with_sign(right, size) != with_sign(rest, size):
        bits += BIT_O
    machine.flags = (machine.flags & ~COMPARED_BITS) | bits
