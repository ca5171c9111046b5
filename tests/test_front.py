"""front: a train goes on by its route."""

import unittest

from tests.helper import CallsCase, cancel, fork, free_sections, front, lay, line, put, ring, route, take


class Front(CallsCase):
    def test_goes_along_the_way_section_by_section(self):
        self.gives([line(4, [0, 1, 3, 1]), put(0, 1), route(0), front(0), front(0), front(0), front(0)],
                   4, 0, 3, 1, 2, 3, -5)

    def test_by_points(self):
        self.gives([fork(), put(0, 1), route(0, 1), front(0), front(0), front(0)], 4, 0, 2, 1, 3, -3)
        self.gives([fork(), put(0, 1), route(0, 0), front(0), front(0), front(0)], 4, 0, 2, 1, 2, -3)
        self.gives([fork(), put(3, 0), route(2), front(0), front(0), front(0)], 4, 0, 2, 1, 0, -5)

    def test_the_rest_of_the_way_is_given(self):
        before = [line(4, [0, 1]), put(0, 1), route(0), front(0)]
        self.assertEqual(free_sections(before), [])
        self.last_gives([*before, take(0)], -3)
        self.last_gives([*before, front(0), take(0)], -3)
        self.last_gives([*before, front(0), front(0), take(0)], 4)

    def test_a_way_of_one_section_gives_nothing_more(self):
        self.gives([line(2, [0, 1]), put(0, 1), route(0), front(0), take(0)], 2, 0, 1, 1, 2)

    def test_the_route_is_gone_and_the_signal_says_stop(self):
        before = [line(3, [0, 1, 1, 1]), put(0, 1), route(0), front(0)]
        self.last_gives([*before, cancel(0)], -3)
        self.last_gives([*before, route(0)], -5, 1, 1)
        self.gives([*before, take(0), put(0, 1), front(0), route(0), front(0)], 3, 0, 1, 1, 2, 0, -5, 1, 1)

    def test_it_still_stands_on_what_it_has_not_left(self):
        before = [line(3, [0, 1]), put(0, 1), route(0), front(0), front(0)]
        self.assertEqual(free_sections(before), [])
        self.last_gives([*before, take(0)], 3)

    def test_from_route_to_route(self):
        track = line(4, [0, 1, 1, 1, 2, 1])
        self.gives([track, put(0, 1), route(1), front(0), route(0), front(0), front(0), front(0), route(2), front(0)],
                   4, 0, 1, -5, 1, 1, 2, -5, 1, 3)

    def test_the_signal_is_sought_at_the_way_out_of_the_front(self):
        # Come into by end 1, 1 is left by end 0, 2 again by end 1.
        track = lay([0, 0, 0, 0], [0, 1, 1, 1, 1, 0, 2, 0, 2, 1, 3, 1], [0, 1, 1, 0, 2, 1])
        goes = [put(0, 1), route(0), front(0), front(0), route(1), front(0), route(2), front(0), front(0)]
        self.gives([track, *goes], 4, 0, 1, 1, -5, 1, 2, 1, 3, -3)

    def test_given_goes_before_a_route_set_from_the_next_signal(self):
        track = line(5, [0, 1, 2, 1])
        self.gives([track, put(0, 1), route(0), route(1), front(0), cancel(1), front(0), front(0)],
                   5, 0, 2, 2, 1, 2, 2, -5)

    def test_several_trains(self):
        track = line(6, [0, 1, 3, 1])
        self.gives([track, put(3, 1), put(0, 1), route(1), front(0), front(0), take(0), route(0), front(1), front(1)],
                   6, 0, 1, 2, 4, 5, 3, 3, 1, 2)

    def test_two_trains_towards_each_other(self):
        track = line(4, [0, 1, 3, 0])
        self.gives([track, put(0, 1), put(3, 0), route(0), route(1), front(1)], 4, 0, 1, (-5, 1, 3), (-5, 1, 0), -5)
        track = line(4, [0, 1, 1, 1, 3, 0, 2, 0])
        self.gives([track, put(0, 1), put(3, 0), route(0), route(2), front(0), front(1), route(1), route(3)],
                   4, 0, 1, 1, 1, 1, 2, (-5, 1, 2), (-5, 1, 1))

    def test_round_a_ring(self):
        track = ring(4, [0, 1, 2, 1])
        self.gives([track, put(0, 1), route(0), front(0), front(0), route(1), front(0), take(0), put(2, 1), route(1)],
                   4, 0, 2, 1, 2, (-5, 1, 0), -5, 3, 0, 2)

    def test_no_such_train(self):
        self.refuses([fork(), put(0, 1)], front(1), -4)
        self.refuses([fork()], front(0), -4)
        self.refuses([fork(), put(0, 1), route(0, 1)], front(8), -4)

    def test_no_signal_stands_there(self):
        self.refuses([line(3), put(0, 1)], front(0), -3)
        self.refuses([line(3, [1, 0, 2, 1]), put(1, 1)], front(0), -3)
        self.refuses([line(3, [0, 1]), put(0, 1), route(0), front(0), front(0)], front(0), -3)

    def test_a_signal_at_its_other_end_is_not_for_it(self):
        self.refuses([line(2, [0, 1]), put(0, 0), route(0)], front(0), -3)

    def test_a_signal_of_another_section_is_not_for_it(self):
        self.refuses([line(3, [1, 1]), put(0, 1), route(0)], front(0), -3)

    def test_the_signal_says_stop(self):
        self.refuses([fork(), put(0, 1)], front(0), -5)
        self.refuses([fork(), put(0, 1), route(1), cancel(1)], front(0), -5)
        self.refuses([fork(), put(0, 0)], front(0), -5)

    def test_each_goes_by_its_own_signal(self):
        track = lay([0, 0, 0, 0], [0, 1, 1, 0, 2, 1, 3, 0], [0, 1, 2, 1])
        self.gives([track, put(0, 1), put(2, 1), route(1), front(0), front(1)], 4, 0, 1, 1, -5, 3)


if __name__ == "__main__":
    unittest.main()
