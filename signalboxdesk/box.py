"""The one function that is called from outside: a list of calls in, a list of answers out."""

from signalboxdesk.calls import cancel, front, lay, put, route, take, way
from signalboxdesk.refusals import NO_TRACK
from signalboxdesk.state import Box

LAY = 0
PUT = 1
TAKE = 2
ROUTE = 3
WAY = 4
CANCEL = 5

# By a call's number: how many whole numbers it has, then how many rows.
SHAPES = ((0, 3), (2, 0), (1, 0), (1, 1), (1, 1), (1, 0), (1, 0))


# The list of calls belongs to whoever hands it in: a row is a slice, so a copy.
class Reader:
    def __init__(self, calls):
        self.calls = calls
        self.place = 0

    def is_done(self):
        return self.place == len(self.calls)

    def read_number(self):
        number = self.calls[self.place]
        self.place += 1
        return number

    def read_row(self):
        length = self.read_number()
        row = self.calls[self.place:self.place + length]
        self.place += length
        return row

    def read_parts(self, call):
        """What stands behind a call's number: whole numbers, then rows."""
        shape = SHAPES[call]
        parts = []
        while len(parts) < shape[0]:
            parts.append(self.read_number())
        while len(parts) < shape[0] + shape[1]:
            parts.append(self.read_row())
        return parts


def answer_on_track(box, call, parts):
    if call == PUT:
        return put(box, parts[0], parts[1])
    if call == TAKE:
        return take(box, parts[0])
    if call == ROUTE:
        return route(box, parts[0], parts[1])
    if call == WAY:
        return way(box, parts[0], parts[1])
    if call == CANCEL:
        return cancel(box, parts[0])
    return front(box, parts[0])


def answer_call(box, call, parts):
    if call == LAY:
        return lay(box, parts[0], parts[1], parts[2])
    if box.track is None:
        return [NO_TRACK]
    return answer_on_track(box, call, parts)


def answers(calls):
    box = Box()
    reader = Reader(calls)
    told = []
    while not reader.is_done():
        call = reader.read_number()
        answer = answer_call(box, call, reader.read_parts(call))
        told.append(len(answer))
        told.extend(answer)
    return told
