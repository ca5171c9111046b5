"""R1 to R6 on lines of calls drawn from a fixed seed, by what each state answers."""

import random
import unittest

from tests.helper import (
    SIGNALS, TRAINS, CallsCase, ask, cancel, emptied, free_sections, front, last, lay, look, put, route, steps_of,
    take, turned_points, way,
)


def random_track(source, sections):
    """The call that lays it, and its signals: few of them, so that ways are of several sections."""
    kinds = [source.randrange(4) // 3 for k in range(sections)]
    spots = [(k, e) for k in range(sections) for e in range(2 + kinds[k])]
    source.shuffle(spots)
    joined = spots[:len(spots) // 2 * 2 - 2 * source.randrange(2)]
    signals = source.sample(spots, source.randint(2, 4))
    return lay(kinds, [n for spot in joined for n in spot], [n for spot in signals for n in spot]), signals


def any_call(source, sections):
    choices = [source.randrange(2) for k in range(source.randrange(3))]
    return source.choice([
        put(source.randrange(sections + 1), source.randrange(4)), take(source.randrange(4)),
        route(source.randrange(5), *choices), cancel(source.randrange(5)), front(source.randrange(3)),
    ])


def fit_route(source, track, i):
    """By choices that fit the way from this signal, if two or fewer do."""
    fit = [c for c in ([], [0], [1], [0, 0], [0, 1], [1, 0], [1, 1]) if last(track, way(i, *c))[0] > 0]
    return route(i, *source.choice(fit or [[]]))


def trip(source, calls, signals):
    """A train at a signal, a route from it, and some of the way gone; the train may be taken then."""
    i = source.randrange(len(signals))
    k = last(*calls, put(*signals[i]))[0]
    if k < 0:
        return [fit_route(source, calls[0], i), front(source.randrange(2))]
    gone = [front(k)] * source.randint(1, 4) + [take(k)] * source.randrange(2)
    return [put(*signals[i]), fit_route(source, calls[0], i), *gone]


def random_lines(seed, lines, length):
    source = random.Random(seed)
    for again in range(lines):
        sections = source.randint(4, 9)
        track, signals = random_track(source, sections)
        calls = [track]
        while len(calls) < length:
            if source.randrange(4) == 0:
                calls.extend(trip(source, calls, signals))
            calls.append(any_call(source, sections))
        yield sections, calls


def belonging(calls):
    """How many sections each train and each route has."""
    routes = [answer[0] for answer in ask(*calls, *[cancel(i) for i in SIGNALS])[len(calls):] if answer[0] > 0]
    gone = emptied(calls)
    trains = [answer[0] for call, answer in zip(gone[len(calls):], ask(*gone)[len(calls):])
              if call[0] == 2 and answer[0] > 0]
    return routes + trains


class Promises(CallsCase):
    def each_state(self, seed, lines=30, length=25):
        """Each call with the calls before it and its answer."""
        for sections, calls in random_lines(seed, lines, length):
            told = ask(*calls)
            for k in range(1, len(calls)):
                yield sections, calls[:k], calls[k], told[k]

    def test_the_lines_reach_what_they_are_for(self):
        seen = set()
        for sections, before, call, answer in self.each_state(1):
            seen.add((call[0], answer[0] if answer[0] < 0 else 0))
        wanted = {(1, 0), (1, -1), (1, -3), (1, -5), (2, 0), (2, -3), (2, -4), (3, 0), (3, -2), (3, -3), (3, -4),
                  (3, -5), (3, -7), (3, -8), (5, 0), (5, -3), (5, -4), (6, 0), (6, -3), (6, -4), (6, -5)}
        self.assertEqual(wanted - seen, set())

    def test_r1_each_section_belongs_to_one_at_most(self):
        for sections, before, call, answer in self.each_state(1, 20):
            calls = [*before, call]
            self.assertEqual(sum(belonging(calls)) + len(free_sections(calls)), sections, calls)

    def test_r2_points_that_are_not_free_do_not_turn(self):
        for sections, before, call, answer in self.each_state(2):
            if call[0] != 3 or answer[0] < 0:
                continue
            free = free_sections(before)
            was = [s for s in turned_points(before) if s not in free]
            now = [s for s in turned_points([*before, call]) if s not in free]
            self.assertEqual(was, now, (before, call))

    def test_r2_points_stand_as_a_route_needs_them(self):
        for sections, before, call, answer in self.each_state(3):
            if call[0] != 3 or answer[0] < 0:
                continue
            turned = turned_points([*before, call])
            for section, end_in, end_out in steps_of(last(*before, [4, *call[1:]])):
                self.assertEqual(section in turned, 2 in (end_in, end_out), (before, call))

    def test_r2_only_a_route_turns_points(self):
        for sections, before, call, answer in self.each_state(4):
            if call[0] != 3:
                self.assertEqual(turned_points(before), turned_points([*before, call]), (before, call))

    def test_r3_a_train_that_has_been_given_goes_on(self):
        for sections, before, call, answer in self.each_state(5):
            if call[0] == 6 and last(*before, take(call[1])) == [-3]:
                self.assertGreaterEqual(answer[0], 0, (before, call))

    def test_r3_a_train_goes_on_by_a_route_to_its_last_section(self):
        gone = 0
        for sections, before, call, answer in self.each_state(6):
            if call[0] != 3 or answer[0] < 0:
                continue
            steps = steps_of(last(*before, [4, *call[1:]]))
            for k in TRAINS:
                if last(*before, front(k)) == [-5] and last(*before, call, front(k))[0] >= 0:
                    told = ask(*before, call, *[front(k)] * len(steps))
                    self.assertEqual(told[len(before) + 1:], [[step[0]] for step in steps])
                    gone += 1
        self.assertGreater(gone, 10)

    def test_r4_a_route_is_set_just_if_all_its_way_is_free(self):
        for sections, before, call, answer in self.each_state(7):
            if call[0] != 3 or last(*before, cancel(call[1])) != [-3]:
                continue
            found = last(*before, [4, *call[1:]])
            if found[0] < 0:
                self.assertEqual(answer, found, (before, call))
                continue
            free = free_sections(before)
            taken = [step[0] for step in steps_of(found) if step[0] not in free]
            self.assertEqual(answer, [-5, 1, taken[0]] if taken else [found[0]], (before, call))

    def test_r4_past_a_signal_it_says_stop_again(self):
        for sections, before, call, answer in self.each_state(8):
            if call[0] != 6 or answer[0] < 0:
                continue
            was = [i for i in SIGNALS if last(*before, cancel(i))[0] > 0]
            now = [i for i in SIGNALS if last(*before, call, cancel(i))[0] > 0]
            passed = last(*before, take(call[1]))[0] > 0
            self.assertEqual(len(was) - len(now), 1 if passed else 0, (before, call))

    def test_r5_what_is_left_behind_is_free(self):
        for sections, before, call, answer in self.each_state(9):
            if call[0] in (2, 5) and answer[0] > 0:
                was = free_sections(before)
                now = free_sections([*before, call])
                self.assertEqual(len(now), len(was) + answer[0], (before, call))
                self.assertEqual(set(was) - set(now), set())

    def test_r6_what_is_refused_changes_nothing(self):
        for sections, before, call, answer in self.each_state(10, 15, 20):
            if answer[0] < 0:
                self.assertEqual(look([*before, call]), look(before), (before, call))

    def test_r6_way_changes_nothing(self):
        for sections, before, call, answer in self.each_state(11, 8, 20):
            for asked in (way(0), way(1, 0), way(2, 1)):
                self.assertEqual(look([*before, asked]), look(before), (before, asked))


if __name__ == "__main__":
    unittest.main()
