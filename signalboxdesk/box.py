"""The one function that is called from outside: a list of calls in, a list of answers out."""

from signalboxdesk.calls import back, cancel, front, lay, put, rear, route, take, turn_points
from signalboxdesk.refusals import NO_TRACK
from signalboxdesk.shows import show_counts, show_section, show_signal, show_train, show_way
from signalboxdesk.state import Box

LAY = 0
PUT = 1
TAKE = 2
ROUTE = 3
WAY = 4
CANCEL = 5
FRONT = 6
REAR = 7
BACK = 8
SECTION = 10
SIGNAL = 11
TRAIN = 12
COUNT = 13

# By a call's number: how many whole numbers it has, then how many rows.
SHAPES = (
    (0, 3), (2, 0), (1, 0), (1, 1), (1, 1), (1, 0), (1, 0),
    (1, 0), (1, 0), (2, 0), (1, 0), (1, 0), (1, 0), (0, 0),
)


# The list of calls belongs to whoever hands it in: a row is a slice, so a copy.
class Reader:
    def __init__(self, calls):
        self.calls = calls
        self.place = 0

    def is_done(self):
        return self.place == len(self.calls)

    def read_number(self):
        number = self.calls[self.place]
        self.place += 1
        return number

    def read_row(self):
        length = self.read_number()
        row = self.calls[self.place:self.place + length]
        self.place += length
        return row

    def read_parts(self, call):
        """What stands behind a call's number: whole numbers, then rows."""
        shape = SHAPES[call]
        parts = []
        while len(parts) < shape[0]:
            parts.append(self.read_number())
        while len(parts) < shape[0] + shape[1]:
            parts.append(self.read_row())
        return parts


def change(box, call, parts):
    if call == PUT:
        return put(box, parts[0], parts[1])
    if call == TAKE:
        return take(box, parts[0])
    if call == ROUTE:
        return route(box, parts[0], parts[1])
    if call == CANCEL:
        return cancel(box, parts[0])
    if call == FRONT:
        return front(box, parts[0])
    if call == REAR:
        return rear(box, parts[0])
    if call == BACK:
        return back(box, parts[0])
    return turn_points(box, parts[0], parts[1])


def show(box, call, parts):
    if call == WAY:
        return show_way(box, parts[0], parts[1])
    if call == SECTION:
        return show_section(box, parts[0])
    if call == SIGNAL:
        return show_signal(box, parts[0])
    if call == TRAIN:
        return show_train(box, parts[0])
    return show_counts(box)


def answer_call(box, call, parts):
    if call == LAY:
        return lay(box, parts[0], parts[1], parts[2])
    if box.track is None:
        return [NO_TRACK]
    if call in (WAY, SECTION, SIGNAL, TRAIN, COUNT):
        return show(box, call, parts)
    return change(box, call, parts)


def answers(calls):
    box = Box()
    reader = Reader(calls)
    told = []
    while not reader.is_done():
        call = reader.read_number()
        answer = answer_call(box, call, reader.read_parts(call))
        told.append(len(answer))
        told.extend(answer)
    return told
