"""The interface: a list of calls on a new object, and the list of their answers."""

from stringdeeds.calls import CALLS
from stringdeeds.machine import Machine


class UnknownCall(ValueError):
    pass


# The place moves on through the list, since what is handed in must stay as it is.
class CallReader:
    def __init__(self, calls):
        self.calls = calls
        self.place = 0

    def is_at_end(self):
        return self.place >= len(self.calls)

    def take(self, how_many):
        begin = self.place
        self.place = begin + how_many
        return self.calls[begin:self.place]

    def take_number(self):
        return self.take(1)[0]

    def take_list(self):
        return self.take(self.take_number())


def answer_next(machine, reader):
    number = reader.take_number()
    if number not in CALLS:
        raise UnknownCall(f"there is no call {number}")
    shape = CALLS[number]
    numbers = reader.take(shape[0])
    data = reader.take_list() if shape[1] == 1 else []
    work = shape[2]
    return work(machine, numbers, data)


def answers(calls):
    machine = Machine()
    reader = CallReader(calls)
    given = []
    while not reader.is_at_end():
        answer = answer_next(machine, reader)
        given.append(len(answer))
        given.extend(answer)
    return given
