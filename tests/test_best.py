import unittest

from asking import ask, begins, best, check, close, fix, free, last, pit, point, road_with, singles, state, told
from roadlaid import least

# All that's needed is given for nothing, but for carrying.
FOR_NOTHING = (2, 4, 0, 0)


class BestSmall(unittest.TestCase):
    def test_without_points(self):
        self.assertEqual(ask(best()), [2, 0, 1])
        self.assertEqual(last(begins(2, 4, 100, 100), best()), [0, 1])
        self.assertEqual(last(*told((2, 4, 1, 1), 3, (4, 2, None)), begins(0, 0, 0, 0), best()), [0, 1])

    def test_1_point_as_high_as_the_ground(self):
        for ground in range(7):
            with self.subTest(ground=ground):
                self.assertEqual(ask(point(ground), best()), [1, 0, 3, 0, 1, ground])

    def test_1_point_with_a_fixed_height_and_a_pit(self):
        for height, cost in [(0, 3 * (10 + 5)), (2, 10 + 5), (3, 0), (4, 20 + 7), (6, 3 * (20 + 7))]:
            with self.subTest(height=height):
                self.assertEqual(last(*told((0, 0, 10, 20), (3, height, (5, 7))), best()), [cost, 1, height])

    def test_1_point_with_a_fixed_height_and_no_pit(self):
        self.assertEqual(last(*told((2, 4, 0, 0), (3, 2, None)), best()), [-6])
        self.assertEqual(last(*told((2, 4, 0, 0), (3, 3, None)), best()), [0, 1, 3])

    def test_2_points_without_a_pit(self):
        self.assertEqual(last(*told((2, 0, 5, 1), 2, 4), best()), [0, 1, 2, 4, 0])
        self.assertEqual(last(*told((1, 0, 5, 1), 2, 4), best()), [7, 1, 3, 3, -1])
        self.assertEqual(last(*told((0, 0, 0, 0), 2, 4), best()), [1, 1, 3, 3, -1])
        self.assertEqual(last(*told((0, 0, 0, 0), 4, 2), best()), [1, 1, 3, 3, 1])
        self.assertEqual(last(*told((0, 0, 100, 100), 0, 6), best()), [603, 1, 3, 3, -3])

    def test_uneven_ground_with_enough_steepness_costs_nothing(self):
        for grounds in [(0, 2), (6, 4, 2), (1, 3, 5, 6), (0, 2, 0, 2, 0), (6, 6, 6, 6, 6)]:
            with self.subTest(grounds=grounds):
                self.assertEqual(last(*told((2, 4, 1, 1), *grounds), best()),
                                 [0, 1, *grounds, *[0] * (len(grounds) - 1)])


class BestRight(unittest.TestCase):
    def test_steep(self):
        # The first point is fixed as high as its ground; the other one rises from there as it may.
        for steep, cost, height in [(0, 12, 0), (1, 10, 1), (2, 8, 2)]:
            with self.subTest(steep=steep):
                self.assertEqual(last(*told((steep, 4, 1, 0), (0, 0, None), (6, None, (1, 0))), best()),
                                 [cost, 1, 0, height, 0])

    def test_bend(self):
        for bend, height in [(0, 3), (1, 3), (2, 4), (3, 4), (4, 5)]:
            with self.subTest(bend=bend):
                row = told((2, bend, 1, 1), (3, 3, None), (5, None, (0, 0)), (3, 3, None))
                self.assertEqual(last(*row, best()), [5 - height, 1, 3, height, 3, 0, 0])

    def test_each_point_between_bends(self):
        row = told((2, 1, 1, 1), *[(ground, None, (0, 0)) for ground in (0, 2, 0, 2, 0)])
        self.assertEqual(last(*row, best()), [3, 1, 0, 1, 1, 1, 0, 0, 0, 0, 0])

    def test_fixed_heights(self):
        row = told((2, 4, 1, 1), *[(3, None, (0, 0))] * 3)
        self.assertEqual(last(*row, fix(1, 6), best()), [5, 1, 4, 6, 4, 0, 0])
        self.assertEqual(last(*row, fix(1, 0), best()), [5, 1, 2, 0, 2, 0, 0])
        self.assertEqual(last(*row, fix(0, 1), fix(2, 5), best()), [4, 1, 1, 3, 5, 0, 0])
        self.assertEqual(last(*row, fix(0, 0), fix(0, 3), best()), [0, 1, 3, 3, 3, 0, 0])
        self.assertEqual(last(*row, fix(0, 0), free(0), best()), [0, 1, 3, 3, 3, 0, 0])

    def test_no_line_is_right(self):
        row = told((1, 4, 1, 1), *[(3, None, (0, 0))] * 3)
        self.assertEqual(last(*row, fix(0, 3), fix(1, 5), best()), [-6])
        self.assertEqual(last(*row, fix(0, 2), fix(2, 5), best()), [-6])
        self.assertEqual(last(*row, fix(0, 2), fix(2, 4), best()), [2, 1, 2, 3, 4, 0, 0])
        row = told((2, 0, 1, 1), *[(3, None, (0, 0))] * 3)
        self.assertEqual(last(*row, fix(0, 0), fix(1, 2), fix(2, 2), best()), [-6])
        self.assertEqual(last(*row, fix(0, 2), fix(2, 3), best()), [-6])

    def test_lines_are_right_but_all_hauls_are_wrong(self):
        self.assertEqual(last(*told((0, 4, 1, 1), 0, 3), best()), [-6])
        self.assertEqual(last(*told((2, 4, 1, 1), *[(3, 4, None)] * 5), best()), [-6])

    def test_behind_that_refusal_all_is_as_it_was(self):
        row = told((0, 4, 1, 1), 0, 3)
        self.assertEqual(ask(*row, best(), best(), free(0), point(3), best()),
                         singles(0, 0, 1, -6, -6, -4, 2) + [7, 7, 1, 2, 2, 2, -2, -1])


class BestPits(unittest.TestCase):
    def test_one_pit(self):
        # Two units are over at point 0, and point 2 has the only pit.
        row = told((2, 4, 1, 100), (3, 1, None), (3, 3, None), (3, None, (5, 5)))
        self.assertEqual(last(*row, best()), [2 + 4 + 10, 1, 1, 3, 3, 2, 2])
        self.assertEqual(last(*row, close(2), best()), [2 + 4 + 200, 1, 1, 3, 5, 2, 2])
        # The same two units are lacking.
        row = told((2, 4, 100, 1), (3, 5, None), (3, 3, None), (3, None, (5, 6)))
        self.assertEqual(last(*row, best()), [2 + 4 + 12, 1, 5, 3, 3, -2, -2])

    def test_a_pit_at_each_point(self):
        row = told((2, 4, 0, 0), (3, 1, (5, 0)), (3, 3, (3, 0)), (3, 3, (0, 0)))
        self.assertEqual(last(*row, best()), [4, 1, 1, 3, 3, 2, 2])
        self.assertEqual(last(*row, pit(1, 0, 0), best()), [2, 1, 1, 3, 3, 2, 0])
        self.assertEqual(last(*row, pit(0, 0, 0), best()), [0, 1, 1, 3, 3, 0, 0])

    def test_prices_of_0_and_of_100(self):
        row = told((0, 0, 100, 100), (6, 0, (100, 0)))
        self.assertEqual(last(*row, best()), [1200, 1, 0])
        self.assertEqual(last(*row, pit(0, 0, 100), best()), [600, 1, 0])
        row = told((0, 0, 100, 100), (0, 6, (0, 100)))
        self.assertEqual(last(*row, best()), [1200, 1, 6])
        self.assertEqual(last(*row, pit(0, 100, 0), best()), [600, 1, 6])

    def test_all_units_go_all_the_way(self):
        # 30 units in all come together at the only pit, 24 of them over the border next to it.
        carried = 6 + 12 + 18 + 24
        for ground, height in [(6, 0), (0, 6)]:
            onwards = [ground - height, 2 * (ground - height), 3 * (ground - height), 4 * (ground - height)]
            back = [-units for units in reversed(onwards)]
            points = [(ground, height, None)] * 4
            pits = [(ground, height, (100, 99) if ground else (99, 100))]
            with self.subTest(ground=ground, height=height):
                self.assertEqual(last(*told((0, 0, 0, 0), *points, *pits), best()),
                                 [3000 + carried, 1, *[height] * 5, *onwards])
                self.assertEqual(last(*told((0, 0, 0, 0), *pits, *points), best()),
                                 [3000 + carried, 1, *[height] * 5, *back])

    def test_a_pit_is_used_only_where_it_is_cheaper(self):
        # One unit is over at point 0 and one is lacking at point 3: carried for 3, or tipped and fetched.
        points = [(3, 2, None), (3, 3, None), (3, 3, None), (3, 4, None)]
        for prices, cost, way in [((1, 1), 2, [0, 0, 0]), ((2, 1), 3, [0, 0, 0]), ((2, 2), 3, [1, 1, 1])]:
            with self.subTest(prices=prices):
                row = told(FOR_NOTHING, *points)
                self.assertEqual(last(*row, pit(0, *prices), pit(3, *prices), best()), [cost, 1, 2, 3, 3, 4, *way])

    def test_cheapest_to_dig_and_fill_but_dear_to_carry(self):
        row = told((2, 4, 1, 1), (2, 0, None), 2, 2, 2, (2, None, (0, 0)))
        along_the_ground = check([0, 2, 2, 2, 2], (0, 4, 2))
        self.assertEqual(last(*row, along_the_ground), [2 + 8])
        self.assertEqual(last(*row, best()), [2 + 2 + 4, 1, 0, 2, 4, 2, 2, 2, 2, 0, 0])


class BestOfSeveral(unittest.TestCase):
    def test_how_many_lines_and_the_earliest(self):
        free_pit = (3, None, (0, 0))
        self.assertEqual(last(*told(FOR_NOTHING, free_pit), best()), [0, 7, 0])
        self.assertEqual(last(*told(FOR_NOTHING, free_pit, free_pit), best()), [0, 29, 0, 0, 0])
        self.assertEqual(last(*told((0, 4, 0, 0), *[free_pit] * 5), best()), [0, 7, *[0] * 9])
        self.assertEqual(last(*told((2, 4, 0, 0), *[free_pit] * 5), best()), [0, 2363, *[0] * 9])

    def test_the_earliest_is_lower_at_the_first_point_where_they_differ(self):
        # Either the first point is filled by one or the second one is dug by one.
        row = told((1, 4, 1, 1), (2, None, (0, 0)), (4, None, (0, 0)))
        self.assertEqual(last(*row, best()), [1, 2, 2, 3, 0])
        row = told((1, 4, 1, 1), (4, None, (0, 0)), (2, None, (0, 0)))
        self.assertEqual(last(*row, best()), [1, 2, 3, 2, 0])

    def test_a_line_counts_once_whatever_ways_it_has(self):
        row = told(FOR_NOTHING, (3, 3, (0, 0)), (3, 2, None), (3, 3, (0, 0)))
        self.assertEqual(last(*row, best()), [1, 1, 3, 2, 3, -1, 0])

    def test_the_earliest_way(self):
        cases = [
            ("lacking between two pits", [(3, 3, (0, 0)), (3, 4, None), (3, 3, (0, 0))], [1, 1, 3, 4, 3, 0, -1]),
            ("tipped there or onwards", [(3, 1, (1, 0)), (3, 3, (0, 0))], [2, 1, 1, 3, 0]),
            ("tipped there or back", [(3, 3, (0, 0)), (3, 1, (1, 0))], [2, 1, 3, 1, -2]),
            ("fetched there or from ahead", [(3, 3, (0, 0)), (3, 5, (0, 1))], [2, 1, 3, 5, 0]),
            ("fetched there or from behind", [(3, 5, (0, 1)), (3, 3, (0, 0))], [2, 1, 5, 3, -2]),
            ("the same at the first border", [(3, 2, None), (3, 3, (1, 0)), (3, 3, (0, 0))], [2, 1, 2, 3, 3, 1, 0]),
            ("back over two borders or one", [(3, 3, (0, 0)), (3, 3, (1, 0)), (3, 2, None)],
             [2, 1, 3, 3, 2, -1, -1]),
            ("back first, then onwards", [(3, 3, (0, 0)), (4, 2, None), (3, 4, None), (3, 3, (0, 0))],
             [2, 1, 3, 2, 4, 3, -1, 1, 0]),
            ("from one to the next", [(3, 3, (0, 0)), (3, 2, None), (3, 4, None), (3, 3, (0, 0))],
             [1, 1, 3, 2, 4, 3, 0, 1, 0]),
        ]
        for name, points, due in cases:
            with self.subTest(name=name):
                self.assertEqual(last(*told(FOR_NOTHING, *points), best()), due)


class BestInARow(unittest.TestCase):
    def test_it_changes_nothing(self):
        road = road_with(3, 0, 6)
        road.fix(1, 2)
        road.pit(2, 8, 9)
        before = state(road)
        first = least.best(road)
        self.assertEqual(state(road), before)
        self.assertEqual(least.best(road), first)
        self.assertEqual(state(road), before)

    def test_several_in_one_list(self):
        self.assertEqual(ask(best(), point(3), best(), fix(0, 2), best(), pit(0, 4, 5), best(), best(),
                             begins(0, 0, 3, 0), best(), point(2), point(4), best(), close(0)),
                         [2, 0, 1, 1, 0, 3, 0, 1, 3, 1, 0, 1, -6, 1, 0, 3, 4, 1, 2, 3, 4, 1, 2,
                          1, 0, 2, 0, 1, 1, 0, 1, 1, 5, 4, 1, 3, 3, -1, 1, -4])


if __name__ == "__main__":
    unittest.main()
