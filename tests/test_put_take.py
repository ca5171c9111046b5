"""put and take."""

import unittest

from tests.helper import CallsCase, fork, free_sections, front, lay, line, put, ring, route, take, way

TURNED = [fork(), route(0, 1), [5, 0]]
EIGHT = [lay([0] * 8 + [1, 0])] + [put(k, k % 2) for k in range(8)]


class Put(CallsCase):
    def test_numbers_from_zero(self):
        self.gives(EIGHT, 10, 0, 1, 2, 3, 4, 5, 6, 7)

    def test_the_least_number_not_in_use(self):
        self.gives([line(5), put(0, 0), put(1, 0), put(2, 0), take(1), take(0), put(3, 1), put(4, 1), put(0, 1)],
                   5, 0, 1, 2, 1, 1, 0, 1, 3)

    def test_stands_on_the_one_section(self):
        calls = [line(3), put(1, 1)]
        self.assertEqual(free_sections(calls), [0, 2])
        self.last_gives([*calls, take(0)], 1)

    def test_goes_out_by_the_end(self):
        track = ring(3, [1, 0, 1, 1])
        self.gives([track, put(1, 0), route(0), front(0)], 3, 0, (-5, 1, 1), -5)
        track = line(3, [1, 0, 1, 1])
        self.gives([track, put(1, 0), route(0), route(1), front(0), front(0)], 3, 0, 1, 1, 0, -3)
        self.gives([track, put(1, 1), route(0), route(1), front(0), front(0)], 3, 0, 1, 1, 2, -3)

    def test_on_points_that_stand_straight(self):
        self.gives([fork(), put(1, 0)], 4, 0)
        self.gives([fork(), put(1, 1)], 4, 0)
        self.refuses([fork()], put(1, 2), -3)

    def test_on_points_that_stand_turned(self):
        self.last_gives([*TURNED, put(1, 0)], 0)
        self.last_gives([*TURNED, put(1, 2)], 0)
        self.refuses(TURNED, put(1, 1), -3)

    def test_out_of_points_by_each_end(self):
        track = lay([0, 1, 0, 0], [0, 1, 1, 0, 1, 1, 2, 0, 1, 2, 3, 0], [0, 1, 1, 0, 1, 1, 1, 2])
        turned = [track, put(0, 1), route(0, 1), front(0), take(0)]
        self.gives([track, put(1, 0), route(1), front(0)], 4, 0, 1, 0)
        self.gives([track, put(1, 1), route(2), front(0)], 4, 0, 1, 2)
        self.last_gives([*turned, put(1, 0), route(1), front(0)], 0)
        self.last_gives([*turned, put(1, 2), route(3), front(0)], 3)

    def test_no_such_end(self):
        for s, e in ((4, 0), (25, 1), (0, 2), (3, 3), (1, 3)):
            self.refuses([fork(), put(2, 0)], put(s, e), -1)

    def test_not_free_as_a_train_stands_there(self):
        self.refuses([fork(), put(2, 0)], put(2, 0), -5)
        self.refuses([fork(), put(2, 0)], put(2, 1), -5)

    def test_not_free_as_it_is_in_a_route(self):
        self.refuses([fork(), route(0, 0)], put(1, 0), -5)
        self.refuses([fork(), route(0, 0)], put(2, 0), -5)

    def test_not_free_as_it_is_given(self):
        before = [line(4, [0, 1]), put(0, 1), route(0), front(0)]
        self.refuses(before, put(0, 0), -5)
        self.refuses(before, put(1, 0), -5)
        self.refuses(before, put(2, 0), -5)
        self.refuses(before, put(3, 0), -5)

    def test_a_ninth_train(self):
        self.refuses(EIGHT, put(9, 0), -6)
        self.refuses(EIGHT, put(8, 1), -6)
        self.last_gives([*EIGHT, take(3), put(9, 0)], 3)

    def test_the_first_that_is_due(self):
        self.refuses(EIGHT, put(0, 2), -1)
        self.refuses(EIGHT, put(10, 0), -1)
        self.refuses(EIGHT, put(0, 0), -5)
        self.refuses(EIGHT, put(8, 2), -3)
        self.refuses([fork(), put(1, 0)], put(1, 2), -5)
        self.refuses([fork(), put(1, 0)], put(1, 3), -1)


class Take(CallsCase):
    def test_answers_on_how_many_it_stood(self):
        before = [line(5, [0, 1]), put(0, 1), route(0), front(0), front(0), front(0), front(0)]
        self.last_gives([*before, take(0)], 5)
        self.last_gives([line(1), put(0, 0), take(0)], 1)

    def test_it_is_gone_and_its_sections_are_free(self):
        before = [line(3, [0, 1, 1, 1]), put(0, 1), route(0), front(0)]
        self.assertEqual(free_sections(before), [2])
        self.assertEqual(free_sections([*before, take(0)]), [0, 1, 2])
        self.refuses([*before, take(0)], take(0), -4)
        self.refuses([*before, take(0)], front(0), -4)

    def test_others_stay(self):
        self.gives([line(3), put(0, 0), put(1, 0), put(2, 0), take(1), take(1), take(2), take(0)],
                   3, 0, 1, 2, 1, -4, 1, 1)

    def test_points_stay_behind_it(self):
        before = [fork(), put(0, 1), route(0, 1), front(0), front(0), take(0)]
        self.gives([*before, put(1, 1), put(1, 2)], 4, 0, 2, 1, 3, 3, -3, 0)

    def test_no_such_train(self):
        self.refuses([fork()], take(0), -4)
        self.refuses([fork(), put(0, 0)], take(1), -4)
        self.refuses(EIGHT, take(8), -4)

    def test_given_some_ahead(self):
        before = [line(3, [0, 1]), put(0, 1), route(0), front(0)]
        self.refuses(before, take(0), -3)
        self.last_gives([*before, front(0), take(0)], 3)

    def test_a_route_ahead_is_not_given(self):
        self.gives([line(3, [0, 1]), put(0, 1), route(0), take(0), way(0), route(0)],
                   3, 0, 2, 1, (2, 6, 1, 0, 1, 2, 0, 1), -8)


if __name__ == "__main__":
    unittest.main()
