import unittest

from asking import GREATEST, ask, check, close, last, pit, point, road_with, singles, state, told


class Close(unittest.TestCase):
    def test_a_pit_is_closed_once(self):
        for prices in [(0, 0), (3, 5), (100, 100)]:
            with self.subTest(prices=prices):
                self.assertEqual(ask(point(3), pit(0, *prices), close(0), close(0), close(0)),
                                 singles(0, 0, 0, -4, -4))

    def test_behind_it_nothing_is_tipped_there_any_more(self):
        row = [*told((2, 4, 0, 0), (3, None, (7, 11))), close(0)]
        self.assertEqual(last(*row, check([1])), [-7, 0, 2])
        self.assertEqual(last(*row, check([3])), [0])

    def test_that_point_alone_is_closed(self):
        road = road_with(1, 2, 3)
        for number in range(3):
            road.fix(number, number)
            road.pit(number, number, 9)
        self.assertEqual(road.close(1), 0)
        self.assertEqual(state(road), (1, 2, 3, 4, [1, 2, 3], [0, 1, 2], [(0, 9), None, (2, 9)]))

    def test_closed_and_made_anew(self):
        row = [*told((2, 4, 0, 0), (3, None, (7, 11))), close(0), pit(0, 4, 1)]
        self.assertEqual(last(*row), [0])
        self.assertEqual(last(*row, check([1])), [8])

    def test_no_pit_is_refused_alone(self):
        self.assertEqual(ask(point(3), close(0)), singles(0, -4))

    def test_a_fixed_height_is_no_pit(self):
        self.assertEqual(last(*told((2, 4, 0, 0), (3, 2, None)), close(0)), [-4])

    def test_no_such_point_is_refused_alone(self):
        self.assertEqual(ask(close(0)), [1, -2])
        for many in range(1, 6):
            for number in (many, many + 1, GREATEST):
                with self.subTest(many=many, number=number):
                    self.assertEqual(ask(*[point(1)] * many, pit(many - 1, 1, 1), close(number), close(many - 1)),
                                     singles(*range(many), 0, -2, 0))

    def test_a_refusal_changes_nothing(self):
        for number, refusal in [(0, -4), (2, -2), (GREATEST, -2)]:
            with self.subTest(number=number):
                road = road_with(1, 2)
                road.fix(0, 4)
                road.pit(1, 8, 9)
                before = state(road)
                self.assertEqual(road.close(number), refusal)
                self.assertEqual(state(road), before)


if __name__ == "__main__":
    unittest.main()
