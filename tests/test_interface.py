"""The form of what goes in and comes out, and that nothing is kept or changed."""

import contextlib
import io
import unittest

from signalboxdesk.box import answers
from tests.helper import (
    HIGHEST, CallsCase, ask, back, cancel, count, flat, fork, front, lay, line, look, points, put, rear, route, section,
    signal, take, train, way,
)

ALL_CALLS = [
    fork(), put(0, 1), way(0, 1), route(0, 1), route(0, 1), front(0), front(0), put(2, 0), take(0), take(1),
    route(1), cancel(1), put(9, 9), lay([0, 2]), fork(), points(1, 1), put(0, 1), section(1), route(0, 1), section(1),
    signal(0), front(0), train(0), section(3), count(), rear(0), back(0), front(0), back(0), train(0), signal(0),
    rear(0), section(0), points(0, 0), signal(9), lay([0, 0]), front(0),
]


class Numbers(CallsCase):
    def test_empty_list_gives_empty_list(self):
        self.assertEqual(answers([]), [])

    def test_each_answer_has_its_count_before_it(self):
        told = answers([0, 2, 0, 0, 4, 0, 1, 1, 0, 2, 0, 1, 1, 0, 1, 4, 0, 0, 3, 0, 0, 6, 0, 2, 0])
        self.assertEqual(told, [1, 2, 1, 0, 5, 1, 3, 1, 0, 1, 1, 1, 1, 1, 1, 2])

    def test_list_behind_routes_not_free_is_told_with_its_count(self):
        told = answers(flat([line(2, [0, 1]), put(1, 1), route(0)]))
        self.assertEqual(told, [1, 2, 1, 0, 3, -5, 1, 1])

    def test_refusals_are_their_number_alone(self):
        told = answers(flat([line(2, [0, 1]), put(7, 0), take(3), way(4), route(1, 5), cancel(0), front(2)]))
        self.assertEqual(told, [1, 2, 1, -1, 1, -4, 1, -4, 1, -4, 1, -3, 1, -4])
        told = answers(flat([line(2), put(0, 1), rear(0), back(1), points(0, 1), section(2), signal(0), train(1)]))
        self.assertEqual(told, [1, 2, 1, 0, 1, -3, 1, -4, 1, -1, 1, -4, 1, -4, 1, -4])

    def test_numbers_of_the_calls(self):
        told = answers([
            0, 3, 0, 0, 1, 8, 0, 1, 1, 0, 1, 1, 2, 0, 2, 0, 1, 9, 2, 1, 1, 0, 1, 3, 0, 1, 1, 11, 0, 6, 0, 12, 0, 10, 2,
            13, 7, 0, 6, 0, 8, 0, 12, 0, 11, 0,
        ])
        self.assertEqual(told, [
            1, 3, 1, 0, 1, 0, 1, 2, 1, 1, 1, 1, 12, 2, 6, 1, 0, 1, 0, 0, 1, 3, 2, 0, 2, 4, 2, 2, 1, 0, 4, 1, 2, 0, 0,
            1, 1, 1, 2, 1, 2, 9, 2, 6, 1, 1, 0, 2, 2, 0, 0, 1, 0,
        ])

    def test_whole_numbers_and_lists_alone(self):
        told = answers(flat(ALL_CALLS))
        self.assertIs(type(told), list)
        self.assertEqual({type(number) for number in told}, {int})

    def test_two_hundred_calls(self):
        calls = [line(1)] + [put(0, 1), take(0)] * 99 + [put(0, 1)]
        self.assertEqual(len(calls), 200)
        self.assertEqual(ask(*calls), [[1]] + [[0], [1]] * 99 + [[0]])

    def test_two_hundred_calls_that_tell(self):
        calls = [line(24, [0, 1])] + [section(23), signal(0), train(0), count()] * 49 + [count()] * 3
        self.assertEqual(len(calls), 200)
        self.assertEqual(ask(*calls), [[24]] + [[0, 1, 0], [0], [-4], [0, 2, 0, 24]] * 49 + [[0, 2, 0, 24]] * 3)

    def test_the_longest_rows(self):
        self.gives([lay([0] * 1000, [0] * 4000, [0] * 1000), put(0, 0)], -1, -9)
        self.gives([line(2, [0, 1]), route(0, *[1] * 1000), way(0, *[1] * 1000), route(0)], 2, -2, -2, 1)

    def test_sixteen_thousand_numbers(self):
        calls = [line(2, [0, 1])] + [way(0, *[0] * 1000)] * 15
        self.assertLessEqual(len(flat(calls)), 16000)
        self.assertEqual(ask(*calls), [[2]] + [[-2]] * 15)


def no_change(*args, **named):
    raise AssertionError("what is handed in is changed")


class Guarded(list):
    """A list that fails when it is changed, even for a while."""

    append = extend = insert = pop = remove = clear = sort = reverse = no_change
    __setitem__ = __delitem__ = __iadd__ = __imul__ = no_change


class NothingKept(CallsCase):
    def test_what_is_handed_in_stays(self):
        calls = flat(ALL_CALLS)
        before = list(calls)
        answers(calls)
        self.assertEqual(calls, before)

    def test_not_changed_for_a_while_either(self):
        calls = flat(ALL_CALLS)
        self.assertEqual(answers(Guarded(calls)), answers(calls))

    def test_the_answer_is_not_the_list_handed_in(self):
        empty = []
        self.assertIsNot(answers(empty), empty)
        self.assertIsNot(answers(empty), answers(empty))

    def test_twice_gives_the_same(self):
        calls = flat(ALL_CALLS)
        first = answers(calls)
        self.assertEqual(answers(calls), first)
        answers(flat([fork(), points(1, 1), put(1, 0), back(0)]))
        self.assertEqual(answers(calls), first)

    def test_each_time_is_as_the_first(self):
        answers(flat([fork(), put(0, 1), route(0, 1)]))
        self.assertEqual(answers(put(0, 1)), [1, -9])
        self.assertEqual(ask(fork(), put(0, 1), route(0, 1)), [[4], [0], [2]])

    def test_nothing_is_printed(self):
        out = io.StringIO()
        with contextlib.redirect_stdout(out), contextlib.redirect_stderr(out):
            answers(flat(ALL_CALLS))
        self.assertEqual(out.getvalue(), "")


class WithoutTrack(CallsCase):
    CALLS = [
        put(0, 0), put(HIGHEST, HIGHEST), take(0), route(0), route(0, 2), way(0), way(0, 1, 0), cancel(0), front(0),
        rear(0), back(0), points(0, 0), points(0, 2), section(0), section(HIGHEST), signal(0), train(0), count(),
    ]

    def test_all_but_lay_are_refused(self):
        self.assertEqual(ask(*self.CALLS), [[-9]] * len(self.CALLS))

    def test_so_too_behind_a_lay_that_is_refused(self):
        self.assertEqual(ask(lay([]), *self.CALLS), [[-1]] + [[-9]] * len(self.CALLS))

    def test_lay_is_not(self):
        self.assertEqual(ask(*self.CALLS, line(3))[-1], [3])


class Highest(CallsCase):
    BEFORE = [fork(), put(2, 0), route(0, 1)]

    def test_each_call_takes_the_highest_number(self):
        for call, wanted in [
            (put(HIGHEST, 0), -1), (put(0, HIGHEST), -1), (put(HIGHEST, HIGHEST), -1), (take(HIGHEST), -4),
            (route(HIGHEST), -4), (route(0, HIGHEST), -1), (way(HIGHEST), -4), (way(0, HIGHEST), -1),
            (cancel(HIGHEST), -4), (front(HIGHEST), -4), (rear(HIGHEST), -4), (back(HIGHEST), -4),
            (points(HIGHEST, 0), -1), (points(1, HIGHEST), -1), (points(HIGHEST, HIGHEST), -1),
            (section(HIGHEST), -4), (signal(HIGHEST), -4), (train(HIGHEST), -4), (lay([HIGHEST]), -1),
            (lay([0], [HIGHEST, 0, 0, 1]), -1), (lay([0], [0, HIGHEST, 0, 1]), -1),
            (lay([0], [0, 0, HIGHEST, 1]), -1), (lay([0], [0, 0, 0, HIGHEST]), -1),
            (lay([0], [], [HIGHEST, 0]), -1), (lay([0], [], [0, HIGHEST]), -1),
        ]:
            with self.subTest(call=call):
                self.last_gives([*self.BEFORE, call], wanted)
                self.assertEqual(look([*self.BEFORE, call]), look(self.BEFORE))


if __name__ == "__main__":
    unittest.main()
