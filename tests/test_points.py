"""points: turned by hand."""

import unittest

from tests.helper import (
    HIGHEST, CallsCase, back, cancel, fork, front, lay, points, put, rear, route, section, take, train, trains_lists,
    turned_points, way,
)

# A train given points 1 and 3 behind them, by the turning end.
GIVEN = [lay([0, 0, 1, 0], [0, 1, 1, 0, 1, 1, 2, 0, 2, 2, 3, 0], [0, 1]), put(0, 1), route(0, 1), front(0)]


class Points(CallsCase):
    def test_turned_and_straight_again(self):
        self.gives([fork(), section(1), points(1, 1), section(1), points(1, 0), section(1)],
                   4, (0, 1, 0), 0, (0, 1, 1), 0, (0, 1, 0))

    def test_as_they_stand_already(self):
        self.gives([fork(), points(1, 0), section(1), points(1, 1), points(1, 1), section(1)],
                   4, 0, (0, 1, 0), 0, 0, (0, 1, 1))

    def test_those_alone(self):
        track = lay([1, 0, 1, 1])
        self.assertEqual(turned_points([track, points(2, 1)]), [2])
        self.assertEqual(turned_points([track, points(0, 1), points(3, 1)]), [0, 3])
        self.assertEqual(turned_points([track, points(0, 1), points(3, 1), points(0, 0)]), [3])

    def test_put_goes_by_how_they_stand(self):
        self.gives([fork(), points(1, 1), put(1, 1), put(1, 2), train(0)], 4, 0, -3, 0, (1, 3, 1, 0, 2, 0))
        self.gives([fork(), points(1, 1), put(1, 0), train(0)], 4, 0, 0, (1, 3, 1, 2, 0, 0))
        self.gives([fork(), points(1, 1), points(1, 0), put(1, 2), put(1, 0), train(0)],
                   4, 0, 0, -3, 0, (1, 3, 1, 1, 0, 0))

    def test_way_goes_by_its_choices_all_the_same(self):
        for stance in (0, 1):
            before = [fork(), points(1, stance)]
            self.last_gives([*before, way(0, 0)], 2, 6, 1, 0, 1, 2, 0, 1)
            self.last_gives([*before, way(0, 1)], 2, 6, 1, 0, 2, 3, 0, 1)
            self.last_gives([*before, way(2)], 2, 6, 1, 2, 0, 0, 1, 0)
            self.last_gives([*before, way(0, 1), section(1)], 0, 1, stance)
            self.refuses(before, way(0), -2)

    def test_route_lays_them_as_it_needs_them(self):
        self.gives([fork(), points(1, 1), route(0, 0), section(1)], 4, 0, 2, (3, 2, 0, 0))
        self.gives([fork(), points(1, 1), route(0, 1), section(1)], 4, 0, 2, (3, 2, 1, 0))
        self.gives([fork(), points(1, 1), route(1), section(1)], 4, 0, 2, (3, 2, 0, 1))
        self.gives([fork(), route(2), cancel(2), section(1), points(1, 0), section(1)],
                   4, 2, 2, (0, 1, 1), 0, (0, 1, 0))

    def test_a_train_goes_over_them_by_its_route(self):
        goes = [fork(), points(1, 1), put(0, 1), route(0, 0), front(0), front(0)]
        self.gives(goes, 4, 0, 0, 2, 1, 2)
        self.assertEqual(trains_lists(goes, 0)[0], [(2, 0, 1), (1, 0, 1), (0, 0, 1)])

    def test_free_again(self):
        self.last_gives([fork(), put(1, 0), take(0), points(1, 1)], 0)
        self.last_gives([fork(), route(0, 1), cancel(0), points(1, 0)], 0)
        left = [fork(), put(0, 1), route(0, 1), front(0), front(0), rear(0)]
        self.last_gives([*left, points(1, 0)], -5)
        self.last_gives([*left, rear(0), points(1, 0)], 0)

    def test_straight_again_behind_a_second_lay(self):
        self.last_gives([fork(), points(1, 1), fork(), section(1)], 0, 1, 0)
        self.last_gives([fork(), points(1, 1), lay([0, 2]), section(1)], 0, 1, 1)

    def test_no_such_points(self):
        before = [fork(), points(1, 1)]
        for s in (0, 2, 3, 4, 24, HIGHEST):
            self.refuses(before, points(s, 0), -1)
            self.refuses(before, points(s, 1), -1)

    def test_neither_straight_nor_turned(self):
        for z in (2, 3, HIGHEST):
            self.refuses([fork()], points(1, z), -1)
            self.refuses([fork(), points(1, 1)], points(1, z), -1)

    def test_not_free_as_a_train_stands_there(self):
        for z in (0, 1):
            self.refuses([fork(), put(1, 0)], points(1, z), -5)
            self.refuses([fork(), put(1, 1), back(0)], points(1, z), -5)
            self.refuses([fork(), points(1, 1), put(1, 2)], points(1, z), -5)

    def test_not_free_as_it_is_given(self):
        self.last_gives([*GIVEN, section(2)], 2, 2, 1, 0)
        self.refuses(GIVEN, points(2, 0), -5)
        self.refuses(GIVEN, points(2, 1), -5)

    def test_not_free_as_it_is_in_a_route(self):
        for z in (0, 1):
            self.refuses([fork(), route(0, 0)], points(1, z), -5)
            self.refuses([fork(), route(2)], points(1, z), -5)

    def test_the_first_that_is_due(self):
        self.refuses([fork(), put(1, 0)], points(1, 2), -1)
        self.refuses([fork(), route(0, 1)], points(1, HIGHEST), -1)
        self.refuses([fork(), put(0, 0)], points(0, 1), -1)
        self.refuses([fork(), put(0, 0)], points(0, 2), -1)


if __name__ == "__main__":
    unittest.main()
