"""rear and back: a train leaves its last section, and is turned about."""

import unittest

from tests.helper import (
    HIGHEST, CallsCase, back, cancel, count, fork, free_sections, front, lay, line, look, points, put, rear, ring, route,
    section, signal, take, train, trains_lists, turned_points,
)

# A train on 0 to 4, its front on 4, at a signal that says stop; 5 lies behind that signal.
LONG = [line(6, [0, 1, 4, 1]), put(0, 1), route(0), front(0), front(0), front(0), front(0)]

# A train that stands on 3, on points 1 turned, and on 0; its front on 3.
OVER_POINTS = [fork(), put(0, 1), route(0, 1), front(0), front(0)]

# A train on 1 and 0 that has been given 2 and 3.
GIVEN = [line(4, [0, 1]), put(0, 1), route(0), front(0)]


class Rear(CallsCase):
    def test_leaves_the_last_one_by_one(self):
        self.gives([*LONG, rear(0), rear(0), rear(0), rear(0)], 6, 0, 4, 1, 2, 3, 4, 4, 3, 2, 1)
        self.assertEqual(trains_lists(LONG, 0)[0], [(4, 0, 1), (3, 0, 1), (2, 0, 1), (1, 0, 1), (0, 0, 1)])
        self.assertEqual(trains_lists([*LONG, rear(0), rear(0)], 0)[0], [(4, 0, 1), (3, 0, 1), (2, 0, 1)])
        self.assertEqual(trains_lists([*LONG, *[rear(0)] * 4], 0)[0], [(4, 0, 1)])

    def test_what_is_left_behind_is_free(self):
        for left in range(5):
            self.assertEqual(free_sections([*LONG, *[rear(0)] * left]), [*range(left), 5])

    def test_what_is_left_behind_may_be_anothers(self):
        track = line(6, [0, 1, 1, 1, 2, 1, 3, 1])
        goes = [track, put(0, 1), route(0), front(0), route(1), front(0)]
        self.refuses(goes, route(0), -5, 1, 1)
        self.refuses([*goes, rear(0)], route(0), -5, 1, 1)
        left = [*goes, rear(0), put(0, 1), rear(0), route(0)]
        self.gives(left, 6, 0, 1, 1, 1, 2, 2, 1, 1, 1)
        self.last_gives([*left, section(1)], 3, 2, 0, 0)
        self.last_gives([*left, front(1)], 1)
        self.last_gives([*left, front(1), section(1)], 1, 2, 0, 1)
        self.refuses([*left, front(1)], route(1), -5, 1, 2)

    def test_points_that_are_left_stay_and_may_be_turned(self):
        self.refuses(OVER_POINTS, points(1, 0), -5)
        self.refuses([*OVER_POINTS, rear(0)], points(1, 0), -5)
        left = [*OVER_POINTS, rear(0), rear(0)]
        self.assertEqual(turned_points(left), [1])
        self.assertEqual(free_sections(left), [0, 1, 2])
        self.last_gives([*left, points(1, 0)], 0)

    def test_of_a_train_that_has_been_given_some(self):
        self.gives([*GIVEN, rear(0), front(0), rear(0), front(0), rear(0)], 4, 0, 3, 1, 1, 2, 1, 3, 1)
        self.assertEqual(trains_lists([*GIVEN, rear(0)], 0), ([(1, 0, 1)], [(2, 0, 1), (3, 0, 1)]))

    def test_only_its_own(self):
        goes = [line(6, [0, 1, 1, 1, 3, 1, 4, 1]), put(3, 1), put(0, 1), route(0), route(2), front(0), front(1)]
        self.gives([*goes, rear(1)], 6, 0, 1, 1, 1, 4, 1, 1)
        self.assertEqual(trains_lists([*goes, rear(1)], 0), ([(4, 0, 1), (3, 0, 1)], []))
        self.assertEqual(trains_lists([*goes, rear(1)], 1), ([(1, 0, 1)], []))
        self.assertEqual(free_sections([*goes, rear(1)]), [0, 2, 5])

    def test_routes_and_signals_stay(self):
        before = [*LONG, route(1), rear(0)]
        self.gives([*before, signal(1), cancel(1)], 6, 0, 4, 1, 2, 3, 4, 1, 4, 1, 1)

    def test_it_stands_on_one(self):
        self.refuses([line(3), put(1, 0)], rear(0), -3)
        self.refuses([*LONG, *[rear(0)] * 4], rear(0), -3)
        self.refuses([*GIVEN, rear(0)], rear(0), -3)
        self.refuses([lay([1]), put(0, 0)], rear(0), -3)

    def test_no_such_train(self):
        for k in (1, 7, 8, 24, HIGHEST):
            self.refuses(LONG, rear(k), -4)
        self.refuses([line(2)], rear(0), -4)
        self.refuses([*LONG, take(0)], rear(0), -4)


class Back(CallsCase):
    def test_on_one_section(self):
        self.gives([line(3), put(1, 0), back(0), train(0)], 3, 0, 1, (1, 3, 1, 0, 1, 0))
        self.gives([line(3), put(1, 1), back(0), train(0)], 3, 0, 1, (1, 3, 1, 1, 0, 0))

    def test_over_plain_sections(self):
        before = [line(3, [0, 1]), put(0, 1), route(0), front(0), front(0)]
        self.gives([*before, train(0), back(0), train(0)], 3, 0, 2, 1, 2,
                   (3, 9, 2, 0, 1, 1, 0, 1, 0, 0, 1, 0), 3, (3, 9, 0, 1, 0, 1, 1, 0, 2, 1, 0, 0))

    def test_over_points(self):
        self.assertEqual(trains_lists(OVER_POINTS, 0)[0], [(3, 0, 1), (1, 0, 2), (0, 0, 1)])
        self.assertEqual(trains_lists([*OVER_POINTS, back(0)], 0)[0], [(0, 1, 0), (1, 2, 0), (3, 1, 0)])
        straight = [fork(), put(0, 1), route(0, 0), front(0), front(0)]
        self.assertEqual(trains_lists([*straight, back(0)], 0)[0], [(0, 1, 0), (1, 1, 0), (2, 1, 0)])
        self.last_gives([*OVER_POINTS, back(0), section(1)], 1, 2, 1, 0)

    def test_over_sections_that_lie_the_other_way(self):
        # Come into by end 1, 1 is left by end 0, 2 again by end 1.
        track = lay([0, 0, 0], [0, 1, 1, 1, 1, 0, 2, 0], [0, 1])
        before = [track, put(0, 1), route(0), front(0), front(0)]
        self.assertEqual(trains_lists(before, 0)[0], [(2, 0, 1), (1, 1, 0), (0, 0, 1)])
        self.assertEqual(trains_lists([*before, back(0)], 0)[0], [(0, 1, 0), (1, 0, 1), (2, 1, 0)])

    def test_on_points_alone(self):
        self.gives([lay([1]), put(0, 0), back(0), train(0)], 1, 0, 1, (1, 3, 0, 0, 1, 0))
        self.gives([lay([1]), points(0, 1), put(0, 2), back(0), train(0)], 1, 0, 0, 1, (1, 3, 0, 2, 0, 0))

    def test_twice_is_as_before(self):
        for before in (LONG, OVER_POINTS, [line(1), put(0, 0)]):
            self.assertEqual(look(before), look([*before, back(0), back(0)]))

    def test_goes_on_the_other_way(self):
        track = line(4, [1, 1, 1, 0])
        before = [track, put(1, 1), route(0), front(0), front(0), back(0)]
        self.gives([*before, front(0), route(1), front(0), train(0)],
                   4, 0, 2, 2, 3, 3, -5, 1, 0, (4, 12, 0, 1, 0, 1, 1, 0, 2, 1, 0, 3, 1, 0, 0))

    def test_goes_on_the_other_way_over_points(self):
        track = lay([0, 1, 0, 0, 0], [0, 1, 1, 0, 1, 1, 2, 0, 1, 2, 3, 0, 0, 0, 4, 1], [0, 1, 0, 0])
        before = [track, put(0, 1), route(0, 1), front(0), front(0), back(0), route(1), front(0), rear(0), rear(0)]
        self.gives(before, 5, 0, 2, 1, 3, 3, 1, 4, 3, 2)
        self.assertEqual(trains_lists(before, 0)[0], [(4, 1, 0), (0, 1, 0)])
        self.assertEqual(free_sections(before), [1, 2, 3])

    def test_its_rear_is_then_where_its_front_was(self):
        self.assertEqual(free_sections([*LONG, back(0), rear(0)]), [4, 5])
        self.assertEqual(free_sections([*OVER_POINTS, back(0), rear(0), rear(0)]), [1, 2, 3])

    def test_a_signal_ahead_is_behind_it_then(self):
        track = line(3, [1, 1])
        self.gives([track, put(1, 1), route(0), back(0), front(0), signal(0), back(0), front(0)],
                   3, 0, 1, 1, -3, 1, 1, 2)

    def test_leaves_all_else(self):
        before = [line(5, [0, 1, 3, 1]), put(0, 1), put(2, 0), route(1)]
        self.gives([*before, back(0), count(), section(2), section(4), train(1)],
                   5, 0, 1, 1, 1, (2, 2, 1, 2), (1, 2, 0, 1), (3, 2, 0, 1), (1, 3, 2, 1, 0, 0))

    def test_given_some_ahead(self):
        self.refuses(GIVEN, back(0), -3)
        self.refuses([*GIVEN, rear(0)], back(0), -3)
        self.refuses([*GIVEN, front(0)], back(0), -3)
        self.last_gives([*GIVEN, front(0), front(0), back(0)], 4)

    def test_no_such_train(self):
        for k in (1, 7, 8, 24, HIGHEST):
            self.refuses(LONG, back(k), -4)
            self.refuses(GIVEN, back(k), -4)
        self.refuses([line(2)], back(0), -4)
        self.refuses([*LONG, take(0)], back(0), -4)


class ComeRound(CallsCase):
    """A train on all of a ring: what lies ahead of its front is its own rear."""

    FULL = [ring(3, [0, 1, 2, 1]), put(0, 1), route(0), front(0), front(0)]

    def test_stands_on_all_of_it(self):
        self.assertEqual(trains_lists(self.FULL, 0), ([(2, 0, 1), (1, 0, 1), (0, 0, 1)], []))
        self.last_gives([*self.FULL, count()], 1, 2, 0, 0)

    def test_does_not_come_into_itself(self):
        self.refuses(self.FULL, route(1), -5, 1, 0)
        self.refuses(self.FULL, front(0), -5)

    def test_goes_on_when_its_rear_has_left(self):
        self.gives([*self.FULL, rear(0), route(1), front(0), rear(0), route(0), front(0)],
                   3, 0, 2, 1, 2, 2, 1, 0, 2, (-5, 1, 2), -5)
        round_again = [*self.FULL, rear(0), route(1), front(0), rear(0), rear(0), route(0), front(0)]
        self.assertEqual(trains_lists(round_again, 0), ([(1, 0, 1), (0, 0, 1)], [(2, 0, 1)]))

    def test_turned_about(self):
        self.assertEqual(trains_lists([*self.FULL, back(0)], 0), ([(0, 1, 0), (1, 1, 0), (2, 1, 0)], []))
        self.refuses([*self.FULL, back(0)], front(0), -3)
        self.gives([*self.FULL, back(0), rear(0), section(2)], 3, 0, 2, 1, 2, 3, 2, (0, 1, 0))

    def test_a_route_that_comes_round_to_its_own_signal(self):
        track = ring(3, [0, 1])
        self.refuses([track, put(0, 1)], route(0), -5, 1, 0)
        self.refuses([track, put(2, 1)], route(0), -5, 1, 2)
        self.gives([track, route(0), section(0), signal(0), count()], 3, 3, (3, 2, 0, 0), 1, (0, 2, 1, 0))

    def test_a_section_joined_with_itself(self):
        before = [lay([0], [0, 0, 0, 1], [0, 1]), put(0, 1)]
        self.refuses(before, route(0), -5, 1, 0)
        self.refuses(before, rear(0), -3)
        self.refuses([*before, back(0)], front(0), -3)
        self.gives([*before, back(0), train(0), count()], 1, 0, 1, (1, 3, 0, 1, 0, 0), (1, 2, 0, 0))


class ComeBack(CallsCase):
    """0 to the toe of points 1, behind whose other ends 2 and 3 are a loop: a train comes back over the same points."""

    LOOP = lay([0, 1, 0, 0], [0, 1, 1, 0, 1, 1, 2, 0, 2, 1, 3, 0, 3, 1, 1, 2], [0, 1, 3, 1])

    def test_through_the_loop_and_out_again(self):
        goes = [self.LOOP, put(0, 1), route(0, 0), front(0), front(0), front(0)]
        self.gives(goes, 4, 0, 3, 1, 2, 3)
        self.refuses(goes, route(1), -5, 1, 1)
        self.refuses([*goes, rear(0)], route(1), -5, 1, 1)
        round_it = [*goes, rear(0), rear(0), section(1), route(1), section(1), front(0), front(0)]
        self.gives(round_it, 4, 0, 3, 1, 2, 3, 3, 2, (0, 1, 0), 2, (3, 2, 1, 1), 1, 0)
        self.assertEqual(trains_lists(round_it, 0), ([(0, 1, 0), (1, 2, 0), (3, 0, 1), (2, 0, 1)], []))
        self.assertEqual(trains_lists([*round_it, back(0)], 0)[0], [(2, 1, 0), (3, 1, 0), (1, 0, 2), (0, 0, 1)])
        self.refuses(round_it, points(1, 0), -5)


if __name__ == "__main__":
    unittest.main()
