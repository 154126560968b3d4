"""The interface: a list of calls on one new service, answered in one list."""

from narrowtokens.keyless import check, narrow, parts, tell_sum
from narrowtokens.service import Service

INIT = 0
ROOT = 1
UNROOT = 2
ISSUE = 3
CHECK = 4
NARROW = 5
ALLOW = 6
REVOKE = 7
USES = 8
RIGHT = 9
SUM = 10

# By a call's number: how many whole numbers it has, and how many rows behind them.
HOW_MANY_NUMBERS = (0, 1, 1, 3, 0, 1, 2, 3, 3, 0, 0, 0)
HOW_MANY_ROWS = (0, 1, 0, 0, 1, 2, 2, 0, 0, 1, 1, 1)


class UnknownCall(ValueError):
    pass


class Reader:
    # It only moves its own place: the list handed in stays as it is.
    def __init__(self, calls):
        self.calls = calls
        self.place = 0

    def at_end(self):
        return self.place == len(self.calls)

    def take_number(self):
        number = self.calls[self.place]
        self.place += 1
        return number

    def take_row(self):
        length = self.take_number()
        row = self.calls[self.place:self.place + length]
        self.place += length
        return row


def answers(calls):
    service = Service()
    reader = Reader(calls)
    told = []
    while not reader.at_end():
        answer = answer_next(service, reader)
        told.append(len(answer))
        told.extend(answer)
    return told


def answer_next(service, reader):
    call = reader.take_number()
    if call >= len(HOW_MANY_NUMBERS):
        raise UnknownCall(f"there is no call {call}")
    numbers = [reader.take_number() for turn in range(HOW_MANY_NUMBERS[call])]
    rows = [reader.take_row() for turn in range(HOW_MANY_ROWS[call])]
    return answer_call(service, call, numbers, rows)


def answer_call(service, call, numbers, rows):
    if call == INIT:
        return service.begin_anew()
    if call == ROOT:
        return service.set_key(numbers[0], rows[0])
    if call == UNROOT:
        return service.take_key(numbers[0])
    if call == ISSUE:
        return service.issue(numbers[0], numbers[1], numbers[2])
    if call == CHECK:
        return check(rows[0])
    if call == NARROW:
        return narrow(numbers[0], rows[0], rows[1])
    if call == ALLOW:
        return service.allow(numbers[0], numbers[1], rows[0], rows[1])
    if call == REVOKE:
        return service.revoke(numbers[0], numbers[1], numbers[2])
    if call == USES:
        return service.uses(numbers[0], numbers[1], numbers[2])
    if call == RIGHT:
        return service.right(rows[0])
    if call == SUM:
        return tell_sum(rows[0])
    return parts(rows[0])
