"""route and cancel."""

import unittest

from tests.helper import (
    CallsCase, cancel, fork, free_sections, front, lay, line, put, ring, route, take, turned_points, way,
)

# Two points toe to toe: 0 and 1 at one side, 4 and 5 at the other. Signals at 0 and 1 towards the points.
THROAT = lay([0, 0, 1, 1, 0, 0], [0, 1, 2, 1, 1, 1, 2, 2, 2, 0, 3, 0, 3, 1, 4, 0, 3, 2, 5, 0], [0, 1, 1, 1])


class Route(CallsCase):
    def test_answers_how_many_sections(self):
        self.gives([line(4, [0, 1]), route(0)], 4, 3)
        self.gives([fork(), route(0, 1)], 4, 2)
        self.gives([line(17, [0, 1]), route(0)], 17, 16)

    def test_its_way_is_not_free_then(self):
        self.assertEqual(free_sections([fork(), route(0, 1)]), [0, 2])
        self.assertEqual(free_sections([line(5, [1, 1, 3, 1]), route(0)]), [0, 1, 4])

    def test_lays_points_from_the_toe(self):
        self.assertEqual(turned_points([fork(), route(0, 1)]), [1])
        self.assertEqual(turned_points([fork(), route(0, 0)]), [])
        self.assertEqual(turned_points([fork(), route(0, 1), cancel(0), route(0, 0)]), [])

    def test_lays_points_from_the_other_ends(self):
        self.assertEqual(turned_points([fork(), route(2)]), [1])
        self.assertEqual(turned_points([fork(), route(1)]), [])
        self.assertEqual(turned_points([fork(), route(2), cancel(2), route(1)]), [])

    def test_lays_all_its_points_and_no_others(self):
        self.assertEqual(turned_points([THROAT, route(1, 1)]), [2, 3])
        self.assertEqual(turned_points([THROAT, route(1, 0)]), [2])
        self.assertEqual(turned_points([THROAT, route(0, 1)]), [3])
        apart = lay([0, 1, 0, 1], [0, 1, 1, 0, 2, 1, 3, 0], [0, 1, 2, 1])
        self.assertEqual(turned_points([apart, route(0, 1)]), [1])
        self.assertEqual(turned_points([apart, route(0, 1), route(1, 0)]), [1])
        self.assertEqual(turned_points([apart, route(0, 1), route(1, 1)]), [1, 3])

    def test_the_signal_says_go(self):
        self.gives([line(2, [0, 1]), put(0, 1), front(0), route(0), front(0)], 2, 0, -5, 1, 1)

    def test_the_section_of_the_signal_need_not_be_free(self):
        self.gives([line(2, [0, 1]), put(0, 1), route(0)], 2, 0, 1)
        self.gives([line(2, [0, 1]), put(0, 0), route(0)], 2, 0, 1)

    def test_several_at_a_time(self):
        track = line(4, [0, 1, 1, 1, 2, 1])
        self.gives([track, route(0), route(2), route(1), cancel(1), cancel(2), cancel(0)], 4, 1, 1, 1, 1, 1, 1)

    def test_round_a_ring(self):
        self.gives([ring(3, [0, 1]), route(0), put(0, 1)], 3, 3, -5)
        self.refuses([ring(3, [0, 1]), put(0, 1)], route(0), -5, 1, 0)

    def test_a_route_is_set_from_it(self):
        self.refuses([fork(), route(0, 1)], route(0, 1), -8)
        self.refuses([fork(), route(0, 1)], route(0, 0), -8)

    def test_the_first_section_that_is_not_free(self):
        track = line(5, [0, 1])
        self.refuses([track, put(1, 0)], route(0), -5, 1, 1)
        self.refuses([track, put(4, 0)], route(0), -5, 1, 4)
        self.refuses([track, put(4, 0), put(3, 0)], route(0), -5, 1, 3)
        self.refuses([track, put(2, 0), put(3, 0)], route(0), -5, 1, 2)

    def test_first_along_the_way_and_not_by_number(self):
        track = lay([0, 0, 0], [0, 1, 2, 0, 2, 1, 1, 0], [0, 1])
        self.refuses([track, put(1, 0), put(2, 0)], route(0), -5, 1, 2)

    def test_not_free_as_it_is_in_another_route(self):
        self.refuses([THROAT, route(0, 0)], route(1, 1), -5, 1, 2)
        self.refuses([fork(), route(0, 0)], route(2), -5, 1, 1)
        opposite = line(3, [0, 1, 2, 0])
        self.refuses([opposite, route(0)], route(1), -5, 1, 1)

    def test_not_free_as_it_is_given(self):
        before = [line(4, [0, 1, 3, 0]), put(0, 1), route(0), front(0)]
        self.refuses(before, route(0), -5, 1, 1)
        self.refuses(before, route(1), -5, 1, 2)

    def test_refused_route_leaves_points(self):
        self.gives([fork(), put(3, 0), route(0, 1), put(1, 2), put(1, 1)], 4, 0, (-5, 1, 3), -3, 1)

    def test_the_first_that_is_due(self):
        before = [fork(), put(0, 1), put(3, 1), route(0, 0)]
        self.refuses(before, route(4, 2), -4)
        self.refuses(before, route(0, 2), -1)
        self.refuses(before, route(0, 0, 1), -2)
        self.refuses(before, route(0), -2)
        self.refuses(before, route(0, 1), -8)
        self.refuses(before, route(0, 0), -8)
        self.refuses(before, route(2), -5, 1, 1)
        loop = lay([0, 1, 0], [0, 1, 1, 1, 1, 0, 2, 0, 2, 1, 1, 2], [0, 1])
        self.refuses([loop, put(1, 0)], route(0), -7)
        self.refuses([lay([0], [], [0, 1]), put(0, 0)], route(0), -3)


class Cancel(CallsCase):
    def test_answers_how_many_sections_it_had(self):
        self.gives([fork(), route(0, 1), cancel(0)], 4, 2, 2)
        self.gives([line(17, [0, 1]), route(0), cancel(0)], 17, 16, 16)

    def test_its_sections_are_free(self):
        self.assertEqual(free_sections([fork(), route(0, 1), cancel(0)]), [0, 1, 2, 3])
        self.gives([fork(), route(0, 1), cancel(0), put(3, 0), put(1, 0)], 4, 2, 2, 0, 1)

    def test_points_stay(self):
        self.gives([fork(), route(0, 1), cancel(0), put(1, 1), put(1, 2)], 4, 2, 2, -3, 0)
        self.gives([fork(), route(0, 0), cancel(0), put(1, 2), put(1, 1)], 4, 2, 2, -3, 0)

    def test_the_signal_says_stop(self):
        self.gives([line(2, [0, 1]), put(0, 1), route(0), cancel(0), front(0)], 2, 0, 1, 1, -5)

    def test_other_routes_stay(self):
        track = line(4, [0, 1, 1, 1, 2, 1])
        before = [track, route(0), route(1), route(2), cancel(1)]
        self.assertEqual(free_sections(before), [0, 2])
        self.last_gives([*before, route(0)], -8)
        self.last_gives([*before, route(2)], -8)

    def test_it_may_be_set_again(self):
        self.gives([fork(), route(0, 1), cancel(0), route(0, 0), cancel(0), route(0, 1)], 4, 2, 2, 2, 2, 2)

    def test_no_such_signal(self):
        self.refuses([fork(), route(0, 1)], cancel(4), -4)
        self.refuses([line(2)], cancel(0), -4)

    def test_no_route_is_set(self):
        self.refuses([fork()], cancel(0), -3)
        self.refuses([fork(), route(0, 1)], cancel(1), -3)
        self.refuses([fork(), route(0, 1), cancel(0)], cancel(0), -3)

    def test_a_route_that_a_train_has_taken(self):
        self.refuses([fork(), put(0, 1), route(0, 1), front(0)], cancel(0), -3)

    def test_the_train_behind_it_may_be_taken(self):
        self.gives([line(2, [0, 1]), put(0, 1), route(0), cancel(0), take(0), way(0)], 2, 0, 1, 1, 1, (1, 3, 1, 0, 1))


if __name__ == "__main__":
    unittest.main()
