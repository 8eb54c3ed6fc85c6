import unittest

from asking import GREATEST, ask, begins, best, check, close, last, pit, point, road_with, singles, state, told

TOO_DEAR = [(101, 0), (0, 101), (101, 100), (100, 101), (101, 101), (GREATEST, 0), (0, GREATEST),
            (GREATEST, GREATEST)]


class Pit(unittest.TestCase):
    def test_answers_0_up_to_each_price(self):
        for prices in [(0, 0), (3, 5), (100, 0), (0, 100), (100, 100)]:
            with self.subTest(prices=prices):
                self.assertEqual(ask(point(3), pit(0, *prices)), singles(0, 0))

    def test_each_price_holds_in_its_place(self):
        row = [*told((2, 4, 0, 0), 3), pit(0, 7, 11)]
        self.assertEqual(last(*row, check([1])), [14])
        self.assertEqual(last(*row, check([6])), [33])

    def test_the_pit_is_at_that_point_alone(self):
        road = road_with(1, 2, 3)
        self.assertEqual(road.pit(1, 5, 6), 0)
        self.assertEqual(state(road), (1, 2, 3, 4, [1, 2, 3], [None] * 3, [None, (5, 6), None]))
        self.assertEqual(ask(point(1), point(1), point(1), pit(1, 5, 6), close(0), close(2), close(1)),
                         singles(0, 1, 2, 0, -4, -4, 0))

    def test_a_pit_instead_of_another(self):
        row = [*told((2, 4, 0, 0), (3, None, (7, 11))), pit(0, 2, 1)]
        self.assertEqual(last(*row, check([1])), [4])
        self.assertEqual(last(*row, check([6])), [3])
        self.assertEqual(last(*row, close(0)), [0])
        self.assertEqual(last(*row, close(0), close(0)), [-4])

    def test_a_pit_for_nothing_is_a_pit(self):
        self.assertEqual(last(*told((2, 4, 0, 0), 3), pit(0, 0, 0), check([1])), [0])

    def test_no_such_point_is_refused_alone(self):
        self.assertEqual(ask(pit(0, 0, 0)), [1, -2])
        for many in range(1, 6):
            for number in (many, many + 1, GREATEST):
                with self.subTest(many=many, number=number):
                    self.assertEqual(ask(*[point(1)] * many, pit(many - 1, 1, 1), pit(number, 1, 1)),
                                     singles(*range(many), 0, -2))

    def test_a_price_above_100_is_refused_alone(self):
        for prices in TOO_DEAR:
            with self.subTest(prices=prices):
                self.assertEqual(ask(point(3), pit(0, *prices), close(0)), singles(0, -1, -4))

    def test_no_such_point_is_told_ahead_of_the_price(self):
        for prices in TOO_DEAR:
            for number in (1, GREATEST):
                with self.subTest(number=number, prices=prices):
                    self.assertEqual(ask(point(1), pit(number, *prices)), singles(0, -2))

    def test_a_refusal_changes_nothing(self):
        for prices in TOO_DEAR:
            for number, refusal in [(0, -1), (1, -1), (2, -2), (GREATEST, -2)]:
                with self.subTest(number=number, prices=prices):
                    road = road_with(1, 2)
                    road.fix(0, 3)
                    road.pit(1, 8, 9)
                    before = state(road)
                    self.assertEqual(road.pit(number, *prices), refusal)
                    self.assertEqual(state(road), before)

    def test_behind_a_refusal_the_earlier_pit_holds(self):
        for prices in TOO_DEAR:
            with self.subTest(prices=prices):
                row = [*told((2, 4, 0, 0), (3, None, (7, 11))), pit(0, *prices)]
                self.assertEqual(last(*row, check([1])), [14])
                self.assertEqual(last(*row, check([6])), [33])

    def test_a_point_behind_begins_has_no_pit(self):
        row = [*told((2, 4, 0, 0), (3, None, (0, 0)), (3, None, (0, 0))), begins(2, 4, 0, 0), point(3), point(3)]
        self.assertEqual(last(*row, close(0)), [-4])
        self.assertEqual(last(*row, close(1)), [-4])
        self.assertEqual(last(*row, check([2, 3])), [-7, 0, 1])
        self.assertEqual(last(*row, check([3, 4])), [-7, 1, -1])
        self.assertEqual(last(*row, best())[:2], [0, 1])


if __name__ == "__main__":
    unittest.main()
