"""way, and the refusals of a way that route has in common with it."""

import unittest

from tests.helper import (
    CallsCase, ask, cancel, fork, front, in_line, last, lay, line, look, put, ring, route, steps_of, way,
)

# 0 to the toe of points 1, from their straight end to the toe of points 2; 3, 4 and 5 at the ends that are left.
TWO_TOES = lay([0, 1, 1, 0, 0, 0], [0, 1, 1, 0, 1, 1, 2, 0, 1, 2, 3, 0, 2, 1, 4, 0, 2, 2, 5, 0], [0, 1])


class Ways(CallsCase):
    def steps(self, track, call):
        return steps_of(last(track, call))

    def test_through_plain_sections(self):
        self.gives([line(3, [0, 1]), way(0)], 3, (2, 6, 1, 0, 1, 2, 0, 1))
        self.assertEqual(self.steps(line(3, [2, 0]), way(0)), [(1, 1, 0), (0, 1, 0)])

    def test_till_a_signal_at_the_way_out(self):
        self.assertEqual(self.steps(line(5, [0, 1, 2, 1]), way(0)), [(1, 0, 1), (2, 0, 1)])
        self.assertEqual(self.steps(line(5, [0, 1, 1, 1]), way(0)), [(1, 0, 1)])

    def test_a_signal_the_other_way_does_not_end_it(self):
        self.assertEqual(self.steps(line(3, [0, 1, 1, 0, 2, 0]), way(0)), [(1, 0, 1), (2, 0, 1)])

    def test_points_from_the_toe(self):
        self.assertEqual(self.steps(fork(), way(0, 0)), [(1, 0, 1), (2, 0, 1)])
        self.assertEqual(self.steps(fork(), way(0, 1)), [(1, 0, 2), (3, 0, 1)])

    def test_points_from_the_other_ends_take_no_choice(self):
        self.assertEqual(self.steps(fork(), way(1)), [(1, 1, 0), (0, 1, 0)])
        self.assertEqual(self.steps(fork(), way(2)), [(1, 2, 0), (0, 1, 0)])

    def test_each_toe_takes_the_next_choice(self):
        self.assertEqual(self.steps(TWO_TOES, way(0, 1)), [(1, 0, 2), (3, 0, 1)])
        self.assertEqual(self.steps(TWO_TOES, way(0, 0, 0)), [(1, 0, 1), (2, 0, 1), (4, 0, 1)])
        self.assertEqual(self.steps(TWO_TOES, way(0, 0, 1)), [(1, 0, 1), (2, 0, 2), (5, 0, 1)])

    def test_points_that_end_the_way(self):
        track = lay([0, 1], [0, 1, 1, 0], [0, 1, 1, 2])
        self.assertEqual(self.steps(track, way(0, 0)), [(1, 0, 1)])
        self.assertEqual(self.steps(track, way(0, 1)), [(1, 0, 2)])

    def test_points_joined_with_points(self):
        track = lay([0, 1, 1, 0], [0, 1, 1, 0, 1, 1, 2, 1, 1, 2, 2, 2, 2, 0, 3, 0], [0, 1])
        self.assertEqual(self.steps(track, way(0, 0)), [(1, 0, 1), (2, 1, 0), (3, 0, 1)])
        self.assertEqual(self.steps(track, way(0, 1)), [(1, 0, 2), (2, 2, 0), (3, 0, 1)])

    def test_round_a_ring_to_the_signal_itself(self):
        self.assertEqual(self.steps(ring(3, [0, 1]), way(0)), [(1, 0, 1), (2, 0, 1), (0, 0, 1)])

    def test_of_sixteen_sections(self):
        self.assertEqual(self.steps(line(17, [0, 1]), way(0)), [(k, 0, 1) for k in range(1, 17)])
        self.assertEqual(self.steps(line(24, [0, 1, 16, 1]), way(0)), [(k, 0, 1) for k in range(1, 17)])
        self.assertEqual(self.steps(ring(16, [0, 1]), way(0))[-1], (0, 0, 1))

    def test_whoever_has_the_sections(self):
        wanted = [2, 6, 1, 0, 2, 3, 0, 1]
        self.last_gives([fork(), put(1, 0), put(3, 0), way(0, 1)], *wanted)
        self.last_gives([fork(), route(0, 1), way(0, 1)], *wanted)
        self.last_gives([fork(), put(0, 1), route(0, 1), front(0), way(0, 1)], *wanted)

    def test_nothing_is_set(self):
        for before in ([fork()], [fork(), put(0, 1), route(0, 0), front(0)], [fork(), route(0, 1), cancel(0)]):
            for call in (way(0, 0), way(0, 1), way(1), way(2)):
                self.assertEqual(look([*before, call]), look(before))
        self.gives([fork(), way(0, 1), put(1, 2), cancel(0), put(1, 1)], 4, (2, 6, 1, 0, 2, 3, 0, 1), -3, -3, 0)


class Refused(CallsCase):
    def refused(self, track, signal, choices, wanted):
        before = [track, put(0, 0)]
        self.refuses(before, way(signal, *choices), wanted)
        self.refuses(before, route(signal, *choices), wanted)

    def test_no_such_signal(self):
        self.refused(fork(), 4, [], -4)
        self.refused(line(3), 0, [], -4)
        self.refused(fork(), 24, [0], -4)

    def test_a_choice_above_one(self):
        self.refused(fork(), 0, [2], -1)
        self.refused(fork(), 0, [0, 2], -1)
        self.refused(fork(), 0, [1, 1, 1, 7], -1)
        self.refused(line(3, [0, 1]), 0, [2], -1)

    def test_too_few_choices(self):
        self.refused(fork(), 0, [], -2)
        self.refused(TWO_TOES, 0, [], -2)
        self.refused(TWO_TOES, 0, [0], -2)

    def test_too_many_choices(self):
        self.refused(fork(), 0, [0, 0], -2)
        self.refused(fork(), 1, [0], -2)
        self.refused(fork(), 2, [1], -2)
        self.refused(TWO_TOES, 0, [1, 0], -2)
        self.refused(TWO_TOES, 0, [0, 1, 0], -2)
        self.refused(line(3, [0, 1]), 0, [0], -2)

    def test_a_section_a_second_time(self):
        # The two ends behind the points are joined by 2, so the way comes back into them.
        loop = lay([0, 1, 0], [0, 1, 1, 0, 1, 1, 2, 0, 2, 1, 1, 2], [0, 1])
        self.refused(loop, 0, [0], -7)
        self.refused(loop, 0, [1], -7)
        self.refused(lay([0, 1], [0, 1, 1, 0, 1, 1, 1, 2], [0, 1]), 0, [0], -7)

    def test_round_a_ring_without_end(self):
        # 1, 2 and 3 are a ring that is come into by points' turning end, and never left.
        track = lay([0, 1, 0, 0], [0, 1, 1, 2, 1, 0, 2, 0, 2, 1, 3, 0, 3, 1, 1, 1], [0, 1])
        self.refused(track, 0, [], -7)

    def test_a_seventeenth_section(self):
        self.refused(line(18, [0, 1]), 0, [], -7)
        self.refused(line(24, [0, 1, 17, 1]), 0, [], -7)
        self.refused(ring(17, [0, 1]), 0, [], -7)
        self.refused(line(24, [0, 1]), 0, [], -7)

    def test_the_end_is_not_joined(self):
        self.refused(fork(), 3, [], -3)
        self.refused(lay([0], [], [0, 1]), 0, [], -3)
        self.refused(lay([1], [], [0, 2]), 0, [], -3)


class FirstAlongTheWay(CallsCase):
    def line_with_toe(self, points, sections):
        """A line whose section `points` is come into by the toe and left straight."""
        kinds = [0] * sections
        kinds[points] = 1
        return lay(kinds, in_line(sections), [0, 1])

    def both(self, track, choices, wanted):
        self.gives([track, way(0, *choices), route(0, *choices)], track[1], wanted, wanted)

    def test_too_few_choices_before_a_seventeenth(self):
        self.both(self.line_with_toe(16, 18), [], -2)
        self.both(self.line_with_toe(1, 24), [], -2)

    def test_a_seventeenth_before_too_few_choices(self):
        self.both(self.line_with_toe(18, 24), [], -7)

    def test_a_seventeenth_before_too_many_choices(self):
        self.both(self.line_with_toe(16, 18), [0, 1], -7)
        self.both(line(18, [0, 1]), [0], -7)

    def test_too_many_choices_at_the_sixteenth(self):
        self.both(line(17, [0, 1]), [0], -2)

    def test_a_seventeenth_before_a_choice_at_its_toe(self):
        self.both(self.line_with_toe(17, 18), [], -7)
        self.both(self.line_with_toe(17, 18), [0], -7)
        all_toes = lay([0] + [1] * 17, in_line(18), [0, 1])
        self.both(all_toes, [0] * 16, -7)
        self.both(all_toes, [0] * 17, -7)
        self.both(all_toes, [0] * 15, -2)

    def test_a_second_time_before_choices_that_are_left(self):
        loop = lay([0, 1, 0], [0, 1, 1, 0, 1, 1, 2, 0, 2, 1, 1, 2], [0, 1])
        self.both(loop, [0, 1], -7)
        self.both(loop, [], -2)

    def test_too_few_choices_before_a_second_time(self):
        # 1 by its turning end, then the toe of 2, whose straight end leads back into 1.
        track = lay([0, 1, 1], [0, 1, 1, 2, 1, 0, 2, 0, 2, 1, 1, 1], [0, 1])
        self.both(track, [], -2)
        self.both(track, [0], -7)


class FirstThatIsDue(CallsCase):
    def both(self, track, signal, choices, wanted):
        self.assertEqual(ask(track, way(signal, *choices), route(signal, *choices))[1:], [[wanted], [wanted]])

    def test_no_such_signal_before_all(self):
        self.both(fork(), 4, [2], -4)
        self.both(fork(), 4, [0, 0, 0], -4)

    def test_a_choice_above_one_before_the_way(self):
        self.both(fork(), 0, [0, 5], -1)
        self.both(line(18, [0, 1]), 0, [2], -1)
        self.both(fork(), 3, [2], -1)

    def test_choices_left_before_an_end_that_is_not_joined(self):
        self.both(fork(), 3, [0], -2)


if __name__ == "__main__":
    unittest.main()
