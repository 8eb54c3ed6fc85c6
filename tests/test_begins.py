import unittest

from asking import (GREATEST, ask, begins, check, close, fix, free, last, pit, point, road_with, singles, state,
                    told)
from roadlaid.told import Road

TOO_GREAT = [
    (3, 4, 100, 100), (2, 5, 100, 100), (2, 4, 101, 100), (2, 4, 100, 101),
    (GREATEST, 0, 0, 0), (0, GREATEST, 0, 0), (0, 0, GREATEST, 0), (0, 0, 0, GREATEST),
    (3, 5, 101, 101), (GREATEST, GREATEST, GREATEST, GREATEST),
]


class Begins(unittest.TestCase):
    def test_a_new_road_has_no_points_and_all_is_0(self):
        self.assertEqual(state(Road()), (0, 0, 0, 0, [], [], []))

    def test_answers_0_up_to_each_limit(self):
        for numbers in [(1, 2, 30, 40), (0, 0, 0, 0), (2, 0, 0, 0), (0, 4, 0, 0),
                        (0, 0, 100, 0), (0, 0, 0, 100), (2, 4, 100, 100)]:
            with self.subTest(numbers=numbers):
                self.assertEqual(ask(begins(*numbers)), [1, 0])

    def test_the_numbers_hold_each_in_its_place(self):
        road = Road()
        self.assertEqual(road.begins(1, 3, 50, 70), 0)
        self.assertEqual(state(road), (1, 3, 50, 70, [], [], []))

    def test_begun_again_there_are_no_points(self):
        self.assertEqual(ask(begins(1, 1, 1, 1), point(3), point(4), begins(2, 2, 2, 2), free(0),
                             fix(0, 1), point(5)), singles(0, 0, 1, 0, -2, -2, 0))

    def test_begun_again_nothing_is_fixed(self):
        self.assertEqual(ask(begins(1, 1, 1, 1), point(3), fix(0, 2), begins(2, 2, 2, 2), point(3),
                             free(0)), singles(0, 0, 0, 0, 0, -4))

    def test_begun_again_there_is_no_pit(self):
        self.assertEqual(ask(begins(1, 1, 1, 1), point(3), pit(0, 2, 2), begins(2, 2, 2, 2), point(3),
                             close(0)), singles(0, 0, 0, 0, 0, -4))

    def test_begun_again_the_new_numbers_hold(self):
        road = road_with(3, 4)
        road.fix(1, 5)
        road.pit(0, 5, 6)
        self.assertEqual(road.begins(2, 0, 100, 0), 0)
        self.assertEqual(state(road), (2, 0, 100, 0, [], [], []))

    def test_begun_again_there_is_room_for_5(self):
        five = [point(0)] * 5
        self.assertEqual(ask(*five, begins(0, 0, 0, 0), *five, point(0)),
                         singles(0, 1, 2, 3, 4, 0, 0, 1, 2, 3, 4, -5))

    def test_too_great_a_number_is_refused_alone(self):
        for numbers in TOO_GREAT:
            with self.subTest(numbers=numbers):
                self.assertEqual(ask(begins(*numbers)), [1, -1])

    def test_a_refusal_changes_nothing(self):
        for numbers in TOO_GREAT:
            with self.subTest(numbers=numbers):
                road = road_with(3, 6)
                road.fix(0, 2)
                road.pit(1, 8, 9)
                before = state(road)
                self.assertEqual(road.begins(*numbers), -1)
                self.assertEqual(state(road), before)

    def test_behind_a_refusal_points_fixed_heights_and_pits_are_there(self):
        for numbers in TOO_GREAT:
            with self.subTest(numbers=numbers):
                self.assertEqual(ask(point(3), fix(0, 2), pit(0, 1, 1), begins(*numbers), point(4), free(0),
                                     free(1), close(0), close(1)),
                                 singles(0, 0, 0, -1, 1, 0, -4, 0, -4))

    def test_behind_a_refusal_the_earlier_numbers_hold(self):
        for numbers in TOO_GREAT:
            with self.subTest(numbers=numbers):
                row = [*told((1, 1, 7, 9), 3, 4, 3), begins(*numbers)]
                self.assertEqual(last(*row, check([3, 3, 4], (1, 2, 1))), [17])
                self.assertEqual(last(*row, check([3, 5, 3])), [-6, 2, 0])
                self.assertEqual(last(*row, check([3, 4, 3])), [-6, 3, 1])


if __name__ == "__main__":
    unittest.main()
