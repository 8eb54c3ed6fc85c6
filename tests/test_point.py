import unittest

from asking import GREATEST, ask, begins, close, fix, free, pit, point, road_with, singles, state


class Point(unittest.TestCase):
    def test_points_are_numbered_from_0(self):
        self.assertEqual(ask(begins(1, 1, 1, 1), point(3), point(0), point(5)), singles(0, 0, 1, 2))

    def test_points_without_a_beginning(self):
        self.assertEqual(ask(point(2), point(2)), singles(0, 1))

    def test_ground_up_to_6(self):
        self.assertEqual(ask(point(0), point(6)), singles(0, 1))

    def test_the_ground_is_told_behind_the_others_and_nothing_is_fixed(self):
        road = road_with(3, 0)
        road.fix(1, 4)
        road.pit(0, 8, 9)
        self.assertEqual(road.add_point(6), 2)
        self.assertEqual(state(road), (1, 2, 3, 4, [3, 0, 6], [None, 4, None], [(8, 9), None, None]))

    def test_a_new_point_is_free(self):
        self.assertEqual(ask(point(3), fix(0, 3), point(3), free(1), free(0)), singles(0, 0, 1, -4, 0))

    def test_a_new_point_has_no_pit(self):
        self.assertEqual(ask(point(3), pit(0, 1, 1), point(3), close(1), close(0)), singles(0, 0, 1, -4, 0))

    def test_ground_above_6_is_refused_alone(self):
        for ground in (7, 8, GREATEST):
            with self.subTest(ground=ground):
                self.assertEqual(ask(point(ground)), [1, -1])

    def test_behind_a_refusal_the_number_is_still_to_be_had(self):
        for ground in (7, GREATEST):
            with self.subTest(ground=ground):
                self.assertEqual(ask(point(1), point(ground), fix(1, 0), point(2)), singles(0, -1, -2, 1))

    def test_a_fifth_point_and_a_sixth(self):
        self.assertEqual(ask(*[point(ground) for ground in (1, 2, 3, 4, 5, 6)]), singles(0, 1, 2, 3, 4, -5))

    def test_behind_a_sixth_point_there_are_5(self):
        self.assertEqual(ask(*[point(1)] * 6, fix(4, 1), fix(5, 1), point(0)),
                         singles(0, 1, 2, 3, 4, -5, 0, -2, -5))

    def test_above_6_is_told_ahead_of_a_full_road(self):
        for ground in (7, GREATEST):
            with self.subTest(ground=ground):
                self.assertEqual(ask(*[point(1)] * 5, point(ground)), singles(0, 1, 2, 3, 4, -1))

    def test_a_refusal_changes_nothing(self):
        for grounds, ground, refusal in [((), 7, -1), ((2, 3), 7, -1), ((0, 1, 2, 3, 4), 7, -1),
                                         ((0, 1, 2, 3, 4), 6, -5), ((0, 1, 2, 3, 4), 0, -5)]:
            with self.subTest(grounds=grounds, ground=ground):
                road = road_with(*grounds)
                road.fix(1, 6)
                road.pit(1, 8, 9)
                before = state(road)
                self.assertEqual(road.add_point(ground), refusal)
                self.assertEqual(state(road), before)


if __name__ == "__main__":
    unittest.main()
