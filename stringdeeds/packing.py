"""The packed form: what its commands make, and the shortest commands for given bytes."""

from stringdeeds.cells import number_at

FIRST_REPEAT = 128
FIRST_ECHO = 192

# A command that repeats or echoes makes no fewer bytes than this.
LEAST_MADE = 3

# What unpacking can come to.
UNPACKED = 0
NOT_ALL_THERE = -2
NOT_MADE_YET = -3
NO_ROOM = -4


def bytes_needed(head):
    if head < FIRST_REPEAT:
        return head + 1
    if head < FIRST_ECHO:
        return 1
    return 2


def bytes_made(head):
    if head < FIRST_REPEAT:
        return head + 1
    if head < FIRST_ECHO:
        return head - FIRST_REPEAT + LEAST_MADE
    return head - FIRST_ECHO + LEAST_MADE


def places_back(needed):
    return number_at(needed, 0, 2)


# A command with several faults tells the first one that is asked for here.
def fault_of(head, needed, how_many_made, room):
    if len(needed) < bytes_needed(head):
        return NOT_ALL_THERE
    if head >= FIRST_ECHO and not 1 <= places_back(needed) <= how_many_made:
        return NOT_MADE_YET
    if how_many_made + bytes_made(head) > room:
        return NO_ROOM
    return UNPACKED


def make_bytes(made, head, needed):
    if head < FIRST_REPEAT:
        made.extend(needed)
    elif head < FIRST_ECHO:
        made.extend(needed * bytes_made(head))
    else:
        back = places_back(needed)
        # One byte after another, since an echo may run into what it makes itself.
        for i in range(bytes_made(head)):
            made.append(made[len(made) - back])


# Gives what it came to, and the bytes.
def unpack_text(packed, room):
    made = []
    place = 0
    while place < len(packed):
        head = packed[place]
        behind = place + 1 + bytes_needed(head)
        needed = packed[place + 1:behind]
        fault = fault_of(head, needed, len(made), room)
        if fault != UNPACKED:
            return (fault, [])
        make_bytes(made, head, needed)
        place = behind
    return (UNPACKED, made)


# How many bytes from the place on are each as the one so many places before it.
def echo_length(data, place, back):
    end = place
    while end < len(data) and data[end] == data[end - back]:
        end += 1
    return end - place


# No text that is packed is longer than the most that a command makes, so these three ask for the least alone.
def plain_commands(data, place):
    return [[end - place - 1] + data[place:end] for end in range(place + 1, len(data) + 1)]


def repeat_commands(data, place):
    same = 1 + echo_length(data, place + 1, 1)
    return [[FIRST_REPEAT + n - LEAST_MADE, data[place]] for n in range(LEAST_MADE, same + 1)]


# Of each length the nearest echo is enough: the others differ from it in a greater byte alone.
def echo_commands(data, place):
    commands = []
    longest = LEAST_MADE - 1
    for back in range(1, place + 1):
        length = echo_length(data, place, back)
        # The upper byte is always 0: a text that is packed has no places that are 256 apart.
        commands.extend([[FIRST_ECHO + n - LEAST_MADE, back, 0] for n in range(longest + 1, length + 1)])
        longest = max(longest, length)
    return commands


def size_and_bytes(text):
    return (len(text), text)


# From the end on: what is best behind a command doesn't depend on how the bytes before it were made.
def pack_text(data):
    best = [[] for i in range(len(data) + 1)]
    for place in range(len(data) - 1, -1, -1):
        commands = plain_commands(data, place) + repeat_commands(data, place) + echo_commands(data, place)
        texts = [command + best[place + bytes_made(command[0])] for command in commands]
        best[place] = min(texts, key=size_and_bytes)
    return best[0]
