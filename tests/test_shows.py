"""section, signal, train and count: what they tell, and that they change nothing."""

import unittest

from tests.helper import (
    HIGHEST, CallsCase, back, cancel, count, fork, front, lay, line, look, points, put, rear, ring, route, section,
    signal, take, train, way,
)

# 0, 1, points 2 by the toe, 3 straight and 4 turning behind them; a signal at 0 and one at 1, towards the points.
YARD = lay([0, 0, 1, 0, 0], [0, 1, 1, 0, 1, 1, 2, 0, 2, 1, 3, 0, 2, 2, 4, 0], [0, 1, 1, 1])
# The same without the signal at 1: the points are given to a train when it goes into 1.
PLAIN_YARD = lay([0, 0, 1, 0, 0], [0, 1, 1, 0, 1, 1, 2, 0, 2, 1, 3, 0, 2, 2, 4, 0], [0, 1])


class Section(CallsCase):
    def test_free(self):
        self.gives([YARD, section(0), section(2), points(2, 1), section(2), section(3)],
                   5, (0, 1, 0), (0, 1, 0), 0, (0, 1, 1), (0, 1, 0))

    def test_a_train_stands_on_it(self):
        self.gives([YARD, put(0, 1), section(0), section(1)], 5, 0, (1, 2, 0, 0), (0, 1, 0))
        self.gives([YARD, put(2, 1), section(2)], 5, 0, (1, 2, 0, 0))
        self.gives([YARD, points(2, 1), put(2, 0), section(2)], 5, 0, 0, (1, 2, 1, 0))

    def test_which_train(self):
        before = [YARD, put(0, 1), put(1, 1), put(4, 0), points(2, 1), put(2, 0)]
        self.gives([*before, section(0), section(1), section(2), section(3), section(4)], 5, 0, 1, 2, 0, 3,
                   (1, 2, 0, 0), (1, 2, 0, 1), (1, 2, 1, 3), (0, 1, 0), (1, 2, 0, 2))

    def test_all_the_sections_on_which_it_stands(self):
        goes = [PLAIN_YARD, put(4, 0), put(0, 1), route(0, 0), front(1), front(1), front(1)]
        self.gives([*goes, *[section(s) for s in range(5)]], 5, 0, 1, 3, 1, 2, 3,
                   (1, 2, 0, 1), (1, 2, 0, 1), (1, 2, 0, 1), (1, 2, 0, 1), (1, 2, 0, 0))

    def test_given(self):
        straight = [PLAIN_YARD, put(4, 0), put(0, 1), route(0, 0), front(1)]
        self.gives([*straight, *[section(s) for s in range(5)]], 5, 0, 1, 3, 1,
                   (1, 2, 0, 1), (1, 2, 0, 1), (2, 2, 0, 1), (2, 2, 0, 1), (1, 2, 0, 0))
        turned = [PLAIN_YARD, put(0, 1), route(0, 1), front(0)]
        self.gives([*turned, *[section(s) for s in range(5)]], 5, 0, 3, 1,
                   (1, 2, 0, 0), (1, 2, 0, 0), (2, 2, 1, 0), (0, 1, 0), (2, 2, 0, 0))

    def test_given_is_stood_on_when_the_train_comes(self):
        before = [PLAIN_YARD, put(0, 1), route(0, 1), front(0)]
        self.gives([*before, section(2), front(0), section(2), section(4), front(0), section(4), rear(0), section(0)],
                   5, 0, 3, 1, (2, 2, 1, 0), 2, (1, 2, 1, 0), (2, 2, 0, 0), 4, (1, 2, 0, 0), 3, (0, 1, 0))

    def test_in_a_route(self):
        self.gives([PLAIN_YARD, route(0, 0), *[section(s) for s in range(5)]], 5, 3,
                   (0, 1, 0), (3, 2, 0, 0), (3, 2, 0, 0), (3, 2, 0, 0), (0, 1, 0))
        self.gives([PLAIN_YARD, route(0, 1), *[section(s) for s in range(5)]], 5, 3,
                   (0, 1, 0), (3, 2, 0, 0), (3, 2, 1, 0), (0, 1, 0), (3, 2, 0, 0))

    def test_which_signal(self):
        self.gives([YARD, route(1, 1), route(0), section(1), section(2), section(4)], 5, 2, 1,
                   (3, 2, 0, 0), (3, 2, 1, 1), (3, 2, 0, 1))

    def test_the_section_of_the_signal_is_not_in_its_route(self):
        self.gives([YARD, put(0, 1), route(0), section(0)], 5, 0, 1, (1, 2, 0, 0))

    def test_free_again_and_points_stay(self):
        self.last_gives([YARD, route(1, 1), cancel(1), section(2)], 0, 1, 1)
        self.last_gives([YARD, points(2, 1), put(2, 0), take(0), section(2)], 0, 1, 1)
        goes = [YARD, put(1, 1), route(1, 1), front(0), front(0), rear(0), rear(0), section(2)]
        self.last_gives(goes, 0, 1, 1)

    def test_no_such_section(self):
        for s in (5, 6, 24, 25, HIGHEST):
            self.refuses([YARD, route(1, 1)], section(s), -4)
        self.gives([line(24), section(23), section(24)], 24, (0, 1, 0), -4)
        self.gives([line(1), section(0), section(1)], 1, (0, 1, 0), -4)

    def test_behind_a_second_lay(self):
        before = [YARD, points(2, 1), put(2, 0), route(0)]
        self.gives([*before, lay([0, 0, 1]), section(2), section(1), section(3)],
                   5, 0, 0, 1, 3, (0, 1, 0), (0, 1, 0), -4)
        self.gives([*before, lay([]), section(2), section(1)], 5, 0, 0, 1, -1, (1, 2, 1, 0), (3, 2, 0, 0))


class Signal(CallsCase):
    def test_go_while_a_route_is_set(self):
        self.gives([YARD, signal(1), route(1, 0), signal(1), cancel(1), signal(1)], 5, 0, 2, 1, 2, 0)

    def test_stop_again_past_it(self):
        goes = [YARD, put(1, 1), signal(1), route(1, 1), signal(1), front(0), signal(1), front(0), signal(1)]
        self.gives(goes, 5, 0, 0, 2, 1, 2, 0, 4, 0)

    def test_each_by_itself(self):
        self.gives([YARD, route(1, 0), signal(0), signal(1), route(0), signal(0), cancel(1), signal(0), signal(1)],
                   5, 2, 0, 1, 1, 1, 2, 1, 0)

    def test_stop_when_a_route_is_refused(self):
        self.gives([YARD, put(2, 0), route(1, 0), signal(1)], 5, 0, (-5, 1, 2), 0)
        self.gives([YARD, route(1), signal(1)], 5, -2, 0)
        self.gives([YARD, way(1, 0), signal(1)], 5, (2, 6, 2, 0, 1, 3, 0, 1), 0)

    def test_no_such_signal(self):
        for i in (2, 3, 24, 25, HIGHEST):
            self.refuses([YARD, route(0)], signal(i), -4)
        self.refuses([line(3)], signal(0), -4)
        all_ends = [number for k in range(12) for number in (k, 0, k, 1)]
        self.gives([line(12, all_ends), signal(23), signal(24)], 12, 0, -4)

    def test_behind_a_second_lay(self):
        self.gives([YARD, route(0), YARD, signal(0), signal(1)], 5, 1, 5, 0, 0)
        self.gives([YARD, route(0), line(2), signal(0)], 5, 1, 2, -4)
        self.gives([YARD, route(0), lay([2]), signal(0)], 5, 1, -1, 1)


class Train(CallsCase):
    def test_on_one_section(self):
        self.gives([YARD, put(0, 1), train(0)], 5, 0, (1, 3, 0, 0, 1, 0))
        self.gives([YARD, put(0, 0), train(0)], 5, 0, (1, 3, 0, 1, 0, 0))

    def test_on_points(self):
        self.gives([YARD, put(2, 0), train(0)], 5, 0, (1, 3, 2, 1, 0, 0))
        self.gives([YARD, put(2, 1), train(0)], 5, 0, (1, 3, 2, 0, 1, 0))
        self.gives([YARD, points(2, 1), put(2, 0), train(0)], 5, 0, 0, (1, 3, 2, 2, 0, 0))
        self.gives([YARD, points(2, 1), put(2, 2), train(0)], 5, 0, 0, (1, 3, 2, 0, 2, 0))

    def test_given_in_order_and_the_front_first(self):
        goes = [PLAIN_YARD, put(0, 1), route(0, 1), train(0), front(0), train(0), front(0), train(0), front(0), train(0)]
        self.gives(goes, 5, 0, 3, (1, 3, 0, 0, 1, 0),
                   1, (2, 6, 1, 0, 1, 0, 0, 1, 6, 2, 0, 2, 4, 0, 1),
                   2, (3, 9, 2, 0, 2, 1, 0, 1, 0, 0, 1, 3, 4, 0, 1),
                   4, (4, 12, 4, 0, 1, 2, 0, 2, 1, 0, 1, 0, 0, 1, 0))

    def test_given_stays_when_its_rear_leaves(self):
        self.last_gives([PLAIN_YARD, put(0, 1), route(0, 0), front(0), rear(0), train(0)],
                        1, 3, 1, 0, 1, 6, 2, 0, 1, 3, 0, 1)

    def test_a_route_ahead_is_not_given_yet(self):
        self.last_gives([YARD, put(0, 1), route(0), train(0)], 1, 3, 0, 0, 1, 0)

    def test_given_up_to_the_next_signal(self):
        self.last_gives([YARD, put(0, 1), route(0), route(1, 0), front(0), train(0)], 2, 6, 1, 0, 1, 0, 0, 1, 0)

    def test_as_long_as_a_way_may_be(self):
        goes = [line(17, [0, 1]), put(0, 1), route(0), front(0)]
        ahead = [number for k in range(2, 17) for number in (k, 0, 1)]
        self.last_gives([*goes, train(0)], 2, 6, 1, 0, 1, 0, 0, 1, 45, *ahead)
        behind = [number for k in range(16, -1, -1) for number in (k, 0, 1)]
        self.last_gives([*goes, *[front(0)] * 15, train(0)], 17, 51, *behind, 0)

    def test_longer_than_a_way_may_be(self):
        goes = [line(24, [0, 1, 12, 1]), put(0, 1), route(0), *[front(0)] * 12, route(1), *[front(0)] * 11]
        behind = [number for k in range(23, -1, -1) for number in (k, 0, 1)]
        self.last_gives([*goes, train(0)], 24, 72, *behind, 0)

    def test_eight_trains(self):
        eight = [lay([0] * 9), *[put(k, k % 2) for k in range(8)]]
        self.assertEqual(len(eight), 9)
        for k in range(8):
            self.last_gives([*eight, train(k)], 1, 3, k, 1 - k % 2, k % 2, 0)
        self.refuses(eight, train(8), -4)
        self.last_gives([*eight, take(7), train(7)], -4)
        self.last_gives([*eight, take(3), put(8, 0), train(3)], 1, 3, 8, 1, 0, 0)

    def test_no_such_train(self):
        for k in (1, 7, 8, 24, HIGHEST):
            self.refuses([YARD, put(0, 1), route(0)], train(k), -4)
        self.refuses([YARD], train(0), -4)
        self.refuses([YARD, put(0, 1), take(0)], train(0), -4)

    def test_behind_a_second_lay(self):
        self.gives([YARD, put(0, 1), YARD, train(0)], 5, 0, 5, -4)
        self.gives([YARD, put(0, 1), lay([0], [0]), train(0)], 5, 0, -1, (1, 3, 0, 0, 1, 0))


class Count(CallsCase):
    def test_of_an_empty_track(self):
        self.gives([YARD, count()], 5, (0, 2, 0, 5))
        self.gives([line(24), count()], 24, (0, 2, 0, 24))
        self.gives([line(1), count()], 1, (0, 2, 0, 1))

    def test_as_they_come_and_go(self):
        goes = [PLAIN_YARD, put(0, 1), put(3, 1), route(0, 1), front(0), rear(0), front(0), front(0), rear(0), rear(0),
                take(1), take(0)]
        told = [5, 0, 1, 3, 1, 1, 2, 4, 2, 1, 1, 1]
        counts = [(0, 2, 0, 5), (1, 2, 0, 4), (2, 2, 0, 3), (2, 2, 1, 0), (2, 2, 0, 0), (2, 2, 0, 1), (2, 2, 0, 1),
                  (2, 2, 0, 1), (2, 2, 0, 2), (2, 2, 0, 3), (1, 2, 0, 4), (0, 2, 0, 5)]
        calls = [call for goes_on in goes for call in (goes_on, count())]
        self.gives(calls, *[answer for pair in zip(told, counts) for answer in pair])

    def test_routes(self):
        self.gives([YARD, route(0), count(), route(1, 0), count(), cancel(0), count(), cancel(1), count()],
                   5, 1, (0, 2, 1, 4), 2, (0, 2, 2, 2), 1, (0, 2, 1, 3), 2, (0, 2, 0, 5))

    def test_eight_trains(self):
        eight = [lay([0] * 10), *[put(k, 0) for k in range(8)]]
        self.last_gives([*eight, count()], 8, 2, 0, 2)
        self.last_gives([*eight, put(8, 0), count()], 8, 2, 0, 2)
        self.last_gives([*eight, take(0), count()], 7, 2, 0, 3)

    def test_of_numbers_that_are_not_the_least(self):
        self.last_gives([line(4), put(0, 0), put(1, 0), put(2, 0), take(0), take(1), count()], 1, 2, 0, 3)

    def test_nothing_free(self):
        self.last_gives([ring(3, [0, 1]), route(0), count()], 0, 2, 1, 0)

    def test_behind_a_second_lay(self):
        self.gives([YARD, put(0, 1), route(0), line(3), count()], 5, 0, 1, 3, (0, 2, 0, 3))
        self.gives([YARD, put(0, 1), route(0), lay([]), count()], 5, 0, 1, -1, (1, 2, 1, 3))


class NothingChanges(CallsCase):
    STATES = [
        [YARD],
        [YARD, put(0, 1), route(0), route(1, 1)],
        [PLAIN_YARD, put(3, 0), put(0, 1), route(0, 1), front(1)],
        [fork(), put(0, 1), route(0, 1), front(0), front(0), rear(0), back(0)],
    ]

    def test_by_what_they_tell(self):
        for before in self.STATES:
            told = look(before)
            for call in (section(0), section(2), section(4), signal(0), signal(1), train(0), train(1), count()):
                self.assertEqual(look([*before, call]), told)
                self.assertEqual(look([*before, call, call]), told)


if __name__ == "__main__":
    unittest.main()
