"""The program's interface: the answers to the calls of one list."""

from hangson.holder import Holder
from hangson.refusals import Refusal

LOAD = 0
ARROWS = 1
ASSUME = 2
RELEASE = 3
GRAPH = 4
CLOSURE = 5
VERDICT = 6
CIRCLE = 7
WAY = 8
WHY = 9
SPREAD = 10

# For each call, by its number, how many whole numbers it has, and then how many rows.
SHAPES = ((0, 1), (0, 1), (0, 3), (0, 3), (1, 1), (1, 1), (0, 0), (1, 0), (5, 1), (0, 3), (0, 2), (0, 0))


class Call:
    """A call as it stands in a list: its number, its whole numbers, its rows, and where it ends."""

    def __init__(self, calls, place):
        self.number = calls[place]
        shape = SHAPES[self.number]
        self.end = place + 1 + shape[0]
        self.wholes = calls[place + 1:self.end]
        self.rows = []
        while len(self.rows) < shape[1]:
            start = self.end + 1
            self.end = start + calls[self.end]
            self.rows.append(tuple(calls[start:self.end]))


def made(holder, call):
    """Makes the call and tells its answer."""
    wholes = call.wholes
    rows = call.rows
    if call.number == LOAD:
        return holder.load(rows[0])
    if call.number == ARROWS:
        return holder.arrows(rows[0])
    if call.number == ASSUME:
        return holder.assume(rows[0], rows[1], rows[2])
    if call.number == RELEASE:
        return holder.release(rows[0], rows[1], rows[2])
    if call.number == GRAPH:
        return holder.graph(wholes[0], rows[0])
    if call.number == CLOSURE:
        return holder.closure(wholes[0], rows[0])
    if call.number == VERDICT:
        return holder.verdict()
    if call.number == CIRCLE:
        return holder.circle(wholes[0])
    if call.number == WAY:
        return holder.way(wholes[0], (wholes[1], wholes[2]), (wholes[3], wholes[4]), rows[0])
    if call.number == WHY:
        return holder.why(rows[0], rows[1], rows[2])
    if call.number == SPREAD:
        return holder.spread(rows[0], rows[1])
    return holder.rounds()


def answered(holder, call):
    try:
        return made(holder, call)
    except Refusal as refusal:
        return [refusal.number]


def answers(calls):
    """The answers to all calls, in order, each with how many numbers it has ahead of it."""
    holder = Holder()
    told = []
    place = 0
    while place < len(calls):
        call = Call(calls, place)
        answer = answered(holder, call)
        told.append(len(answer))
        told.extend(answer)
        place = call.end
    return told
