"""Work on rows: elements of one width, one behind another."""

from stringdeeds.cells import SIZES, number_at, put_number, turned_bytes


def is_row(cells, place, n, width):
    if width not in SIZES or place < 0 or n < 0:
        return False
    return place + n * width <= len(cells)


def in_order(n, down):
    return list(range(n - 1, -1, -1)) if down else list(range(n))


def copy_row(cells, dst, src, n, width, down):
    # One element after another: rows that overlap repeat what they run into.
    for i in in_order(n, down):
        offset = i * width
        put_number(cells, dst + offset, width, number_at(cells, src + offset, width))


def fill_row(cells, dst, n, width, number):
    for i in range(n):
        put_number(cells, dst + i * width, width, number)


def row_numbers(cells, place, n, width):
    return [number_at(cells, place + i * width, width) for i in range(n)]


def put_row(cells, place, width, numbers):
    for i in range(len(numbers)):
        put_number(cells, place + i * width, width, numbers[i])


# Which of the elements are the number's lowest bytes, a truth for each.
def are_like(cells, place, n, width, number):
    lowest = number % SIZES[width]
    return [element == lowest for element in row_numbers(cells, place, n, width)]


# Searches answer n where there is none, so that the answer is a number in each case.
def find_in_row(cells, place, n, width, number, alike, down):
    likeness = are_like(cells, place, n, width, number)
    for i in in_order(n, down):
        if likeness[i] == alike:
            return i
    return n


def find_difference(cells, left, right, n, width, down):
    lefts = row_numbers(cells, left, n, width)
    rights = row_numbers(cells, right, n, width)
    for i in in_order(n, down):
        if lefts[i] != rights[i]:
            return i
    return n


def count_in_row(cells, place, n, width, number):
    return are_like(cells, place, n, width, number).count(True)


def turn_row(cells, place, n, width):
    numbers = row_numbers(cells, place, n, width)
    put_row(cells, place, width, list(reversed(numbers)))


def swap_row(cells, place, n, width):
    numbers = row_numbers(cells, place, n, width)
    put_row(cells, place, width, [turned_bytes(number, width) for number in numbers])
