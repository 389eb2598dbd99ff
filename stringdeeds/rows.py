"""Work on rows: elements of one width, one behind another."""

from stringdeeds.cells import SIZES, number_at, put_number


def is_row(cells, place, n, width):
    if width not in SIZES or place < 0 or n < 0:
        return False
    return place + n * width <= len(cells)


def copy_row(cells, dst, src, n, width, down):
    # One element after another: rows that overlap repeat what they run into.
    for i in range(n):
        offset = (n - 1 - i if down else i) * width
        put_number(cells, dst + offset, width, number_at(cells, src + offset, width))


def fill_row(cells, dst, n, width, number):
    for i in range(n):
        put_number(cells, dst + i * width, width, number)
