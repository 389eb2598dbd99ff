"""Memory as a list of bytes, and the numbers that its elements are."""

# How many different numbers an element can be, by its width in bytes.
SIZES = {1: 256, 2: 65536, 4: 4294967296, 8: 18446744073709551616}


def has_element(cells, place, width):
    return place + width <= len(cells)


def number_at(cells, place, width):
    number = 0
    # The lowest byte stands first, so the highest is taken first.
    for byte in reversed(cells[place:place + width]):
        number = number * 256 + byte
    return number


# What the number has above its lowest bytes is left out here, so that no caller has to cut it off.
def put_number(cells, place, width, number):
    rest = number
    for i in range(width):
        cells[place + i] = rest % 256
        rest = rest // 256


# As put_number, this takes the lowest bytes alone.
def turned_bytes(number, width):
    rest = number
    turned = 0
    for i in range(width):
        turned = turned * 256 + rest % 256
        rest = rest // 256
    return turned
