import unittest

from asking import GREATEST, ask, begins, fix, free, point, road_with, singles, state


class Free(unittest.TestCase):
    def test_a_fixed_point_is_freed(self):
        self.assertEqual(ask(begins(1, 1, 1, 1), point(3), fix(0, 4), free(0)), singles(0, 0, 0, 0))

    def test_each_fixed_height_is_freed(self):
        for height in range(7):
            with self.subTest(height=height):
                self.assertEqual(ask(point(3), fix(0, height), free(0), free(0)), singles(0, 0, 0, -4))

    def test_that_point_alone_is_freed(self):
        road = road_with(1, 2, 3)
        for number in range(3):
            road.fix(number, number)
        road.pit(1, 8, 9)
        self.assertEqual(road.free(1), 0)
        self.assertEqual(state(road), (1, 2, 3, 4, [1, 2, 3], [0, None, 2], [None, (8, 9), None]))

    def test_nothing_fixed_is_refused_alone(self):
        self.assertEqual(ask(point(3), free(0)), singles(0, -4))

    def test_freed_twice(self):
        self.assertEqual(ask(point(3), fix(0, 4), free(0), free(0), free(0)), singles(0, 0, 0, -4, -4))

    def test_no_such_point_is_refused_alone(self):
        self.assertEqual(ask(free(0)), [1, -2])
        for number in (2, 3, GREATEST):
            with self.subTest(number=number):
                self.assertEqual(ask(point(1), point(1), free(number)), singles(0, 1, -2))

    def test_the_last_point_is_there_and_the_next_is_not(self):
        for many in range(1, 6):
            with self.subTest(many=many):
                self.assertEqual(ask(*[point(1)] * many, fix(many - 1, 1), free(many - 1), free(many)),
                                 singles(*range(many), 0, 0, -2))

    def test_a_refusal_changes_nothing(self):
        for number, refusal in [(0, -4), (2, -2), (GREATEST, -2)]:
            with self.subTest(number=number):
                road = road_with(1, 2)
                road.fix(1, 4)
                road.pit(0, 8, 9)
                before = state(road)
                self.assertEqual(road.free(number), refusal)
                self.assertEqual(state(road), before)


if __name__ == "__main__":
    unittest.main()
