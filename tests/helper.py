"""Calls as lists of numbers, tracks to try them on, and a look at a state by what it answers."""

import unittest

from signalboxdesk.box import answers

HIGHEST = 9223372036854775807


def lay(p, j=(), s=()):
    return [0, len(p), *p, len(j), *j, len(s), *s]


def put(s, e):
    return [1, s, e]


def take(k):
    return [2, k]


def route(i, *c):
    return [3, i, len(c), *c]


def way(i, *c):
    return [4, i, len(c), *c]


def cancel(i):
    return [5, i]


def front(k):
    return [6, k]


def flat(calls):
    return [number for call in calls for number in call]


def ask(*calls):
    """What each call answers, the count before it taken off."""
    told = answers(flat(calls))
    split = []
    at = 0
    while at < len(told):
        split.append(told[at + 1:at + 1 + told[at]])
        if len(split[-1]) != told[at]:
            raise AssertionError(f"cut off: {told}")
        at += 1 + told[at]
    if len(split) != len(calls):
        raise AssertionError(f"{len(calls)} calls, {len(split)} answers")
    return split


def last(*calls):
    return ask(*calls)[-1]


def in_line(count):
    """Joints of sections 0 .. count - 1, each one's end 1 with the next one's end 0."""
    return flat([k, 1, k + 1, 0] for k in range(count - 1))


def line(count, signals=()):
    return lay([0] * count, in_line(count), signals)


def ring(count, signals=()):
    return lay([0] * count, in_line(count) + [count - 1, 1, 0, 0], signals)


def fork():
    """0 to the toe of points 1; 2 straight behind them, 3 turning. Signals: 0 at 0 towards the points, 1 at 2
    and 2 at 3 towards them, 3 at 0's far end, which isn't joined."""
    return lay([0, 1, 0, 0], [0, 1, 1, 0, 1, 1, 2, 0, 1, 2, 3, 0], [0, 1, 2, 0, 3, 0, 0, 0])


def steps_of(answer):
    """The steps that way answers."""
    if answer[1] != 3 * answer[0] or len(answer) != 2 + answer[1]:
        raise AssertionError(answer)
    return [tuple(answer[k:k + 3]) for k in range(2, len(answer), 3)]


SIGNALS = range(24)
TRAINS = range(8)


def emptied(calls):
    """These calls, and more that leave no route and no train."""
    gone = [*calls, *[cancel(i) for i in SIGNALS]]
    for k in TRAINS:
        for again in range(24):
            if last(*gone, front(k))[0] < 0:
                break
            gone.append(front(k))
        gone.append(take(k))
    return gone


def how_many(calls):
    """The sections of the track that is laid last; 0 without one."""
    sections = 0
    for call, answer in zip(calls, ask(*calls)):
        if call[0] == 0 and answer[0] > 0:
            sections = answer[0]
    return sections


def free_sections(calls):
    return [s for s in range(how_many(calls)) if last(*calls, put(s, 0)) != [-5]]


def turned_points(calls):
    """Those that stand turned, whoever has them: asked when all else is gone."""
    clear = emptied(calls)
    return [s for s in range(how_many(calls)) if last(*clear, put(s, 1)) == [-3]]


def look(calls):
    """All that can be told of the state behind these calls: equal for equal states."""
    calls = list(calls)
    sections = how_many(calls)
    seen = [last(*calls, put(s, e)) for s in range(sections + 1) for e in range(4)]
    seen.append([last(*calls, take(k)) for k in TRAINS])
    seen.append([ask(*calls, *[front(k)] * (sections + 1), take(k))[len(calls):] for k in TRAINS])
    seen.append(ask(*calls, *[cancel(i) for i in SIGNALS])[len(calls):])
    seen.append([last(*calls, way(i, *c)) for i in SIGNALS for c in ([], [0], [1])])
    seen.append(free_sections(calls))
    seen.append(turned_points(calls))
    return seen


class CallsCase(unittest.TestCase):
    def gives(self, calls, *wanted):
        self.assertEqual(ask(*calls), [list(w) if isinstance(w, (list, tuple)) else [w] for w in wanted])

    def last_gives(self, calls, *wanted):
        self.assertEqual(last(*calls), list(wanted))

    def refuses(self, before, call, *wanted):
        """The call is refused so, and the state is what it was."""
        self.assertLess(wanted[0], 0)
        self.assertEqual(last(*before, call), list(wanted))
        self.assertEqual(look([*before, call]), look(before))
