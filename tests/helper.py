"""Calls as lists of numbers, tracks to try them on, and a look at a state by what it answers."""

import unittest

from signalboxdesk.box import answers

HIGHEST = 9223372036854775807


def lay(p, j=(), s=()):
    return [0, len(p), *p, len(j), *j, len(s), *s]


def put(s, e):
    return [1, s, e]


def take(k):
    return [2, k]


def route(i, *c):
    return [3, i, len(c), *c]


def way(i, *c):
    return [4, i, len(c), *c]


def cancel(i):
    return [5, i]


def front(k):
    return [6, k]


def rear(k):
    return [7, k]


def back(k):
    return [8, k]


def points(s, z):
    return [9, s, z]


def section(s):
    return [10, s]


def signal(i):
    return [11, i]


def train(k):
    return [12, k]


def count():
    return [13]


def flat(calls):
    return [number for call in calls for number in call]


def ask(*calls):
    """What each call answers, the count before it taken off."""
    told = answers(flat(calls))
    split = []
    at = 0
    while at < len(told):
        split.append(told[at + 1:at + 1 + told[at]])
        if len(split[-1]) != told[at]:
            raise AssertionError(f"cut off: {told}")
        at += 1 + told[at]
    if len(split) != len(calls):
        raise AssertionError(f"{len(calls)} calls, {len(split)} answers")
    return split


def last(*calls):
    return ask(*calls)[-1]


def in_line(count):
    """Joints of sections 0 .. count - 1, each one's end 1 with the next one's end 0."""
    return flat([k, 1, k + 1, 0] for k in range(count - 1))


def line(count, signals=()):
    return lay([0] * count, in_line(count), signals)


def ring(count, signals=()):
    return lay([0] * count, in_line(count) + [count - 1, 1, 0, 0], signals)


def fork():
    """0 to the toe of points 1; 2 straight behind them, 3 turning. Signals: 0 at 0 towards the points, 1 at 2
    and 2 at 3 towards them, 3 at 0's far end, which isn't joined."""
    return lay([0, 1, 0, 0], [0, 1, 1, 0, 1, 1, 2, 0, 1, 2, 3, 0], [0, 1, 2, 0, 3, 0, 0, 0])


def by_threes(numbers):
    if len(numbers) % 3 != 0:
        raise AssertionError(numbers)
    return [tuple(numbers[k:k + 3]) for k in range(0, len(numbers), 3)]


def steps_of(answer):
    """The steps that way answers."""
    if answer[1] != 3 * answer[0] or len(answer) != 2 + answer[1]:
        raise AssertionError(answer)
    return by_threes(answer[2:])


def trains_steps(answer):
    """The two lists of steps that train answers: on which it stands, which are given."""
    behind = 2 + answer[1]
    if answer[1] != 3 * answer[0] or len(answer) != behind + 1 + answer[behind]:
        raise AssertionError(answer)
    return by_threes(answer[2:behind]), by_threes(answer[behind + 1:])


SECTIONS = range(24)
SIGNALS = range(24)
TRAINS = range(8)


class Seen:
    """What section, signal, train and count tell behind some calls; nothing of numbers that aren't there."""

    def __init__(self, calls):
        asked = [section(s) for s in SECTIONS] + [signal(i) for i in SIGNALS] + [train(k) for k in TRAINS] + [count()]
        told = ask(*calls, *asked)[len(calls):]
        self.all_told = told
        sections = [answer for answer in told[:24] if answer[0] >= 0]
        self.held = [answer[0] for answer in sections]
        self.stances = [answer[2] for answer in sections]
        self.holders = [answer[3] if len(answer) == 4 else None for answer in sections]
        self.signals = [answer[0] for answer in told[24:48] if answer[0] >= 0]
        self.trains = {k: trains_steps(told[48 + k]) for k in TRAINS if told[48 + k][0] >= 0}
        self.counts = told[56]

    def free(self):
        return [s for s, held in enumerate(self.held) if held == 0]

    def turned(self):
        return [s for s, stance in enumerate(self.stances) if stance == 1]


def free_sections(calls):
    return Seen(calls).free()


def turned_points(calls):
    return Seen(calls).turned()


def trains_lists(calls, k):
    return Seen(calls).trains[k]


def look(calls):
    """All that can be told of the state behind these calls, the track too: equal for equal states."""
    calls = list(calls)
    seen = Seen(calls).all_told
    ends = [last(*calls, put(s, e)) for s in range(len(Seen(calls).held) + 1) for e in range(4)]
    ways = ask(*calls, *[way(i, *c) for i in SIGNALS for c in ([], [0], [1])])[len(calls):]
    return seen, ends, ways


class CallsCase(unittest.TestCase):
    def gives(self, calls, *wanted):
        self.assertEqual(ask(*calls), [list(w) if isinstance(w, (list, tuple)) else [w] for w in wanted])

    def last_gives(self, calls, *wanted):
        self.assertEqual(last(*calls), list(wanted))

    def refuses(self, before, call, *wanted):
        """The call is refused so, and the state is what it was."""
        self.assertLess(wanted[0], 0)
        self.assertEqual(last(*before, call), list(wanted))
        self.assertEqual(look([*before, call]), look(before))
