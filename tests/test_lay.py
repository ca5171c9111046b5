"""lay: what a track may be."""

import unittest

from tests.helper import CallsCase, ask, fork, front, in_line, last, lay, line, put, ring, route, steps_of, take, way

TWENTY_FOUR_SIGNALS = [number for k in range(12) for number in (k, 0, k, 1)]


class Laid(CallsCase):
    def test_answers_how_many_sections(self):
        for sections in (1, 2, 3, 16, 23, 24):
            self.gives([line(sections)], sections)
        self.gives([fork()], 4)
        self.gives([ring(5)], 5)

    def test_nothing_joined_and_no_signal(self):
        self.gives([lay([0, 1, 0]), front(0), route(0), put(1, 1)], 3, -4, -4, 0)

    def test_all_points_are_straight_at_first(self):
        before = lay([1, 0, 1])
        self.gives([before, put(0, 2), put(2, 2), put(0, 1), put(2, 1)], 3, -3, -3, 0, 1)

    def test_points_have_three_ends_and_plain_ones_two(self):
        self.gives([lay([0, 1], [0, 0, 1, 2], [1, 0, 0, 1])], 2)
        self.gives([lay([0, 1], [0, 2, 1, 2])], -1)
        self.gives([lay([0, 1], [0, 1, 1, 3])], -1)
        self.gives([lay([0, 1], [], [0, 2])], -1)
        self.gives([lay([0, 1], [], [1, 3])], -1)
        self.gives([lay([0, 1], [], [1, 2])], 2)

    def test_a_section_may_be_joined_with_itself_by_its_two_ends(self):
        track = lay([0], [0, 0, 0, 1], [0, 1])
        self.assertEqual(steps_of(last(track, way(0))), [(0, 0, 1)])

    def test_joints_hold_both_ways(self):
        track = lay([0, 0], [0, 1, 1, 0], [0, 1, 1, 0])
        self.assertEqual(steps_of(last(track, way(0))), [(1, 0, 1)])
        self.assertEqual(steps_of(last(track, way(1))), [(0, 1, 0)])

    def test_ends_joined_in_any_order(self):
        track = lay([0, 0, 0], [2, 1, 0, 0, 1, 1, 2, 0], [1, 1])
        self.assertEqual(steps_of(last(track, way(0))), [(2, 0, 1), (0, 0, 1)])

    def test_signals_are_numbered_as_they_are_told(self):
        track = lay([0, 0, 0], in_line(3), [1, 1, 0, 1])
        self.assertEqual(steps_of(last(track, way(0))), [(2, 0, 1)])
        self.assertEqual(steps_of(last(track, way(1))), [(1, 0, 1)])

    def test_both_sides_of_a_joint_may_have_a_signal(self):
        self.gives([lay([0, 0], [0, 1, 1, 0], [0, 1, 1, 0]), route(0), route(1)], 2, 1, 1)

    def test_twenty_four_signals(self):
        track = line(12, TWENTY_FOUR_SIGNALS)
        self.gives([track, way(23), way(22), way(24)], 12, -3, (1, 3, 10, 1, 0), -4)


class SecondLay(CallsCase):
    BEFORE = [fork(), route(0, 1), put(2, 1), put(0, 1), front(1)]

    def test_leaves_no_train(self):
        self.gives([*self.BEFORE, fork(), take(0), front(1), put(0, 1)], 4, 2, 0, 1, 1, 4, -4, -4, 0)

    def test_leaves_no_route(self):
        self.gives([fork(), route(0, 1), fork(), route(0, 1)], 4, 2, 4, 2)
        self.gives([fork(), route(0, 1), fork(), put(3, 0), put(1, 1)], 4, 2, 4, 0, 1)

    def test_leaves_all_points_straight(self):
        self.gives([fork(), route(0, 1), fork(), put(1, 2), put(1, 1)], 4, 2, 4, -3, 0)

    def test_is_another_track(self):
        self.gives([fork(), line(2, [0, 1]), put(3, 0), route(1), route(0)], 4, 2, -1, -4, 1)
        self.gives([line(2), fork(), put(3, 0), put(1, 0)], 2, 4, 0, 1)


class Refused(CallsCase):
    BEFORE = [fork(), put(2, 1), put(0, 1), route(0, 1), front(1)]

    def refused(self, *lists):
        self.gives([lay(*lists), put(0, 0)], -1, -9)
        self.refuses(self.BEFORE, lay(*lists), -1)

    def test_no_section_or_more_than_twenty_four(self):
        self.refused([])
        self.refused([], [0, 0, 0, 1], [0, 0])
        self.refused([0] * 25)
        self.refused([1] * 25)

    def test_neither_plain_nor_points(self):
        self.refused([2])
        self.refused([0, 1, 3, 0])

    def test_joints_not_by_fours(self):
        for length in (1, 2, 3, 5, 6, 7):
            self.refused([0, 0, 0], in_line(3)[:length])

    def test_signals_not_by_twos(self):
        self.refused([0, 0], [], [0])
        self.refused([0, 0], [], [0, 1, 1])

    def test_no_such_end_in_a_joint(self):
        self.refused([0, 0], [0, 1, 2, 0])
        self.refused([0, 0], [2, 0, 0, 1])
        self.refused([0, 0], [0, 2, 1, 0])
        self.refused([0, 1], [0, 1, 1, 3])

    def test_no_such_end_of_a_signal(self):
        self.refused([0, 0], [], [2, 0])
        self.refused([0, 0], [], [0, 2])
        self.refused([1, 0], [], [0, 3])

    def test_an_end_joined_with_itself(self):
        self.refused([0, 0], [0, 1, 0, 1])

    def test_an_end_joined_twice(self):
        self.refused([0, 0, 0], [0, 1, 1, 0, 0, 1, 2, 0])
        self.refused([0, 0, 0], [0, 1, 1, 0, 2, 0, 0, 1])
        self.refused([0, 0, 0], [0, 1, 1, 0, 2, 0, 1, 0])
        self.refused([0, 0, 0], [0, 1, 1, 0, 0, 1, 1, 0])
        self.refused([0, 0, 0], [0, 1, 1, 0, 1, 0, 0, 1])

    def test_two_signals_at_one_end(self):
        self.refused([0, 0], in_line(2), [0, 1, 0, 1])
        self.refused([0, 0], in_line(2), [0, 1, 1, 1, 0, 1])

    def test_twenty_five_signals(self):
        self.refused([0] * 13, in_line(13), TWENTY_FOUR_SIGNALS + [12, 0])
        self.assertEqual(ask(lay([0] * 13, in_line(13), TWENTY_FOUR_SIGNALS)), [[13]])

    def test_fault_at_the_very_end(self):
        self.refused([0] * 23 + [2])
        self.refused([0] * 24, in_line(24) + [23, 1, 23, 1])
        self.refused([0] * 24, in_line(24), [0, 0, 23, 2])


if __name__ == "__main__":
    unittest.main()
