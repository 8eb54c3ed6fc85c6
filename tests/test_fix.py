import unittest

from asking import GREATEST, ask, begins, fix, free, point, road_with, singles, state


class Fix(unittest.TestCase):
    def test_a_height_is_fixed_at_that_point_alone(self):
        self.assertEqual(ask(begins(1, 1, 1, 1), point(3), point(3), point(3), fix(1, 4), free(0), free(2), free(1)),
                         singles(0, 0, 1, 2, 0, -4, -4, 0))

    def test_each_height_from_0_to_6_is_kept(self):
        for height in range(7):
            with self.subTest(height=height):
                road = road_with(1, 2)
                self.assertEqual(road.fix(1, height), 0)
                self.assertEqual(state(road), (1, 2, 3, 4, [1, 2], [None, height], [None, None]))

    def test_another_height_stands_instead(self):
        road = road_with(1)
        road.fix(0, 5)
        self.assertEqual(road.fix(0, 2), 0)
        self.assertEqual(state(road), (1, 2, 3, 4, [1], [2], [None]))

    def test_fixed_twice_it_is_freed_once(self):
        self.assertEqual(ask(point(3), fix(0, 5), fix(0, 2), free(0), free(0)), singles(0, 0, 0, 0, -4))

    def test_the_same_height_is_fixed_again(self):
        self.assertEqual(ask(point(3), fix(0, 5), fix(0, 5)), singles(0, 0, 0))

    def test_freed_and_fixed_anew(self):
        road = road_with(1)
        road.fix(0, 5)
        road.free(0)
        self.assertEqual(road.fix(0, 3), 0)
        self.assertEqual(road.fixed, [3])
        self.assertEqual(ask(point(3), fix(0, 5), free(0), fix(0, 3), free(0), free(0)),
                         singles(0, 0, 0, 0, 0, -4))

    def test_no_such_point_is_refused_alone(self):
        self.assertEqual(ask(fix(0, 0)), [1, -2])
        for number in (2, 3, GREATEST):
            with self.subTest(number=number):
                self.assertEqual(ask(point(1), point(1), fix(number, 0)), singles(0, 1, -2))

    def test_the_last_point_is_there_and_the_next_is_not(self):
        for many in range(1, 6):
            with self.subTest(many=many):
                self.assertEqual(ask(*[point(1)] * many, fix(many - 1, 1), fix(many, 1)),
                                 singles(*range(many), 0, -2))

    def test_a_height_above_6_is_refused_alone(self):
        for height in (7, GREATEST):
            with self.subTest(height=height):
                self.assertEqual(ask(point(1), fix(0, height)), singles(0, -1))

    def test_no_such_point_is_told_ahead_of_the_height(self):
        for number, height in [(1, 7), (1, GREATEST), (GREATEST, 7), (GREATEST, GREATEST)]:
            with self.subTest(number=number, height=height):
                self.assertEqual(ask(point(1), fix(number, height)), singles(0, -2))

    def test_a_refusal_changes_nothing(self):
        for number, height, refusal in [(0, 7, -1), (1, GREATEST, -1), (2, 0, -2), (2, 7, -2)]:
            with self.subTest(number=number, height=height):
                road = road_with(1, 2)
                road.fix(1, 4)
                road.pit(0, 8, 9)
                before = state(road)
                self.assertEqual(road.fix(number, height), refusal)
                self.assertEqual(state(road), before)

    def test_behind_a_refusal_it_is_fixed_or_free_as_before(self):
        self.assertEqual(ask(point(1), point(1), fix(1, 4), fix(0, 7), fix(1, 7), free(0), free(1)),
                         singles(0, 1, 0, -1, -1, -4, 0))


if __name__ == "__main__":
    unittest.main()
