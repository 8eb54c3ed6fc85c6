import unittest

from asking import GREATEST, ask, best, check, fix, free, last, pit, singles, told

# Level ground of 3, anything may be steep and bent, digging costs 10, filling 100.
LEVEL = told((2, 4, 10, 100), 3, 3, 3)
# The same with a pit at each point: whatever is left there may be left.
PITS = told((2, 4, 10, 100), *[(3, None, (5, 7))] * 3)


class CheckCosts(unittest.TestCase):
    def test_without_points_it_costs_0(self):
        self.assertEqual(ask(check([])), [1, 0])

    def test_a_line_like_the_ground_costs_0(self):
        self.assertEqual(last(*LEVEL, check([3, 3, 3])), [0])

    def test_one_point(self):
        row = told((0, 0, 10, 100), (3, None, (5, 7)))
        self.assertEqual([last(*row, check([height])) for height in range(7)],
                         [[45], [30], [15], [0], [107], [214], [321]])

    def test_digging_filling_and_carrying(self):
        self.assertEqual(last(*LEVEL, check([1, 3, 5], (0, 2, 2))), [20 + 200 + 4])
        self.assertEqual(last(*LEVEL, check([5, 3, 1], (2, 0, 2))), [200 + 20 + 4])

    def test_dug_units_may_be_carried_apart(self):
        row = told((2, 4, 10, 100), 3, 4, 3)
        self.assertEqual(last(*row, check([4, 2, 4], (1, 0, 1), (1, 2, 1))), [20 + 200 + 2])

    def test_onwards_and_back_over_several_borders(self):
        row = told((2, 4, 0, 0), 3, 3, 3, 3, 3)
        self.assertEqual(last(*row, check([2, 4, 3, 4, 2], (0, 3, 1), (4, 1, 1))), [6])
        self.assertEqual(last(*row, check([1, 3, 3, 3, 5], (0, 4, 2))), [8])
        self.assertEqual(last(*row, check([5, 3, 3, 3, 1], (4, 0, 2))), [8])

    def test_by_way_of_another_point(self):
        self.assertEqual(last(*LEVEL, check([2, 3, 4], (0, 1, 1), (1, 2, 1))), [110 + 2])
        # In whatever order: point 1 gives on what comes to it only later.
        self.assertEqual(last(*LEVEL, check([2, 3, 4], (1, 2, 1), (0, 1, 1))), [110 + 2])

    def test_more_is_carried_than_is_there(self):
        self.assertEqual(last(*LEVEL, check([3, 3, 3], (0, 1, 9), (1, 0, 9))), [18])
        self.assertEqual(last(*PITS, check([3, 3, 3], (0, 1, 4))), [4 + 28 + 20])

    def test_tipping_and_fetching(self):
        self.assertEqual(last(*PITS, check([1, 3, 4])), [20 + 100 + 10 + 7])
        self.assertEqual(last(*PITS, check([1, 3, 4], (0, 2, 1))), [20 + 100 + 2 + 5])
        self.assertEqual(last(*PITS, check([3, 3, 3], (2, 0, 3))), [6 + 15 + 21])

    def test_each_pit_has_its_own_prices(self):
        row = told((2, 4, 0, 0), (3, None, (1, 2)), (3, None, (4, 8)), (3, None, (16, 32)))
        self.assertEqual(last(*row, check([2, 2, 2])), [1 + 4 + 16])
        self.assertEqual(last(*row, check([4, 4, 4])), [2 + 8 + 32])
        self.assertEqual(last(*row, check([2, 4, 2])), [1 + 8 + 16])

    def test_a_haul_of_0_units(self):
        self.assertEqual(last(*LEVEL, check([3, 3, 3], (0, 2, 0))), [0])

    def test_the_same_haul_twice(self):
        self.assertEqual(last(*LEVEL, check([1, 3, 5], (0, 2, 1), (0, 2, 1))), [20 + 200 + 4])

    def test_20_hauls_of_1000_units(self):
        hauls = [(0, 2, 1000), (2, 0, 1000)] * 10
        self.assertEqual(last(*LEVEL, check([3, 3, 3], *hauls)), [40000])

    def test_the_road_s_own_prices(self):
        for dig, fill in [(0, 0), (100, 0), (0, 100), (100, 100), (3, 4)]:
            with self.subTest(dig=dig, fill=fill):
                row = told((2, 4, dig, fill), 3, 3)
                self.assertEqual(last(*row, check([2, 4], (0, 1, 1))), [dig + fill + 1])

    def test_fixed_heights_that_the_line_has(self):
        self.assertEqual(last(*LEVEL, fix(0, 1), fix(2, 5), check([1, 3, 5], (0, 2, 2))), [224])

    def test_check_changes_nothing(self):
        row = [*PITS, fix(1, 3)]
        asked = [check([1, 3, 4], (0, 2, 1)), check([1, 3, 4]), check([0, 3, 3]), check([1, 2, 3]), check([7, 3, 3])]
        answered = [[127], [137], [-6, 2, 0], [-6, 1, 1], [-1]]
        self.assertEqual([last(*row, call) for call in asked], answered)
        self.assertEqual([last(*row, *asked, call) for call in asked], answered)
        self.assertEqual(last(*row, *asked, best()), last(*row, best()))


class CheckRefused(unittest.TestCase):
    def test_not_a_height_for_each_point(self):
        for line in [[], [3], [3, 3], [3, 3, 3, 3], [3] * 5, [3] * 20]:
            with self.subTest(line=line):
                self.assertEqual(last(*LEVEL, check(line)), [-1])

    def test_without_points(self):
        for line in [[0], [7], [0, 0], [0] * 20]:
            with self.subTest(line=line):
                self.assertEqual(ask(check(line)), [1, -1])
        self.assertEqual(ask(check([], (0, 1, 1))), [1, -1])
        self.assertEqual(ask(check([], (0, 0, 0))), [1, -1])

    def test_a_height_of_6_and_above(self):
        row = told((2, 4, 10, 100), *[(6, None, (0, 0))] * 3)
        self.assertEqual(last(*row, check([6, 6, 6])), [0])
        for place in range(3):
            for height in (7, 8, GREATEST):
                with self.subTest(place=place, height=height):
                    line = [6, 6, 6]
                    line[place] = height
                    self.assertEqual(last(*row, check(line)), [-1])

    def test_20_hauls_and_more(self):
        for many in (1, 19, 20):
            self.assertEqual(last(*PITS, check([3, 3, 3], *[(0, 1, 0)] * many)), [0])
        for many in (21, 22, 40):
            self.assertEqual(last(*PITS, check([3, 3, 3], *[(0, 1, 0)] * many)), [-1])

    def test_a_point_that_there_is_not(self):
        for many in range(1, 6):
            row = told((2, 4, 0, 0), *[(3, None, (1, 1))] * many)
            line = [3] * many
            for number in (many, many + 1, GREATEST):
                with self.subTest(many=many, number=number):
                    self.assertEqual(last(*row, check(line, (number, 0, 1))), [-1])
                    self.assertEqual(last(*row, check(line, (0, number, 1))), [-1])
                    self.assertEqual(last(*row, check(line, (0, number, 0))), [-1])
            if many > 1:
                self.assertEqual(last(*row, check(line, (0, many - 1, 1))), [many - 1 + 2])

    def test_a_haul_from_a_point_to_itself(self):
        for number in range(3):
            for units in (0, 1):
                with self.subTest(number=number, units=units):
                    self.assertEqual(last(*PITS, check([3, 3, 3], (number, number, units))), [-1])

    def test_1000_units_and_more(self):
        self.assertEqual(last(*PITS, check([3, 3, 3], (0, 1, 1000))), [1000 + 7000 + 5000])
        for units in (1001, GREATEST):
            with self.subTest(units=units):
                self.assertEqual(last(*PITS, check([3, 3, 3], (0, 1, units))), [-1])

    def test_each_haul_is_looked_at(self):
        for haul in [(0, 3, 1), (3, 0, 1), (1, 1, 1), (0, 1, 1001), (GREATEST, GREATEST, GREATEST)]:
            for ahead in range(3):
                with self.subTest(haul=haul, ahead=ahead):
                    hauls = [(0, 1, 1)] * ahead + [haul] + [(1, 0, 1)] * (2 - ahead)
                    self.assertEqual(last(*PITS, check([3, 3, 3], *hauls)), [-1])

    def test_it_is_told_ahead_of_a_wrong_line_and_wrong_hauls(self):
        # Fixed otherwise, too steep and bent too much, with something left and no pit.
        row = [*told((0, 0, 0, 0), 3, 3, 3), fix(1, 0)]
        self.assertEqual(last(*row, check([6, 1, 6])), [-6, 1, 1])
        for line, hauls in [([6, 1], []), ([6, 1, 6, 1], []), ([6, 1, 7], []), ([7, 1, 6], []),
                            ([6, 1, 6], [(0, 3, 1)]), ([6, 1, 6], [(3, 0, 1)]), ([6, 1, 6], [(2, 2, 1)]),
                            ([6, 1, 6], [(0, 1, 1001)]), ([6, 1, 6], [(0, 1, 1)] * 21)]:
            with self.subTest(line=line, hauls=hauls):
                self.assertEqual(last(*row, check(line, *hauls)), [-1])
        self.assertEqual(last(*LEVEL, check([3, 3, 2], (0, 3, 1))), [-1])


class CheckWrongLine(unittest.TestCase):
    def test_another_height_is_fixed(self):
        for number in range(3):
            for height in (0, 2, 4, 6):
                with self.subTest(number=number, height=height):
                    self.assertEqual(last(*PITS, fix(number, height), check([3, 3, 3])), [-6, 1, number])
        self.assertEqual(last(*PITS, fix(1, 4), fix(1, 3), check([3, 3, 3])), [0])
        self.assertEqual(last(*PITS, fix(1, 4), free(1), check([3, 3, 3])), [0])

    def test_the_first_point_of_several(self):
        self.assertEqual(last(*PITS, fix(2, 0), fix(1, 0), check([3, 3, 3])), [-6, 1, 1])
        row = told((0, 4, 0, 0), 3, 3, 3, 3)
        self.assertEqual(last(*row, check([3, 3, 2, 3])), [-6, 2, 1])
        self.assertEqual(last(*row, check([3, 4, 4, 3])), [-6, 2, 0])
        row = told((2, 0, 0, 0), 3, 3, 3, 3, 3)
        self.assertEqual(last(*row, check([3, 3, 4, 3, 3])), [-6, 3, 1])
        self.assertEqual(last(*row, check([3, 3, 3, 3, 4])), [-6, 3, 3])
        self.assertEqual(last(*row, check([1, 2, 3, 4, 4])), [-6, 3, 3])

    def test_too_steep(self):
        for steep in range(3):
            row = told((steep, 4, 0, 0), *[(3, None, (0, 0))] * 2)
            for low in range(7):
                for high in range(7):
                    with self.subTest(steep=steep, low=low, high=high):
                        due = [0] if abs(high - low) <= steep else [-6, 2, 0]
                        self.assertEqual(last(*row, check([low, high])), due)

    def test_bent_too_much(self):
        for bend in range(5):
            row = told((2, bend, 0, 0), *[(3, None, (0, 0))] * 3)
            for line, bent in [([3, 3, 3], 0), ([2, 3, 4], 0), ([1, 3, 5], 0), ([5, 3, 1], 0), ([3, 3, 4], 1),
                               ([3, 3, 2], 1), ([4, 3, 3], 1), ([3, 4, 3], 2), ([3, 2, 3], 2), ([3, 3, 5], 2),
                               ([2, 3, 2], 2), ([3, 5, 4], 3), ([4, 2, 3], 3), ([3, 5, 3], 4), ([5, 3, 5], 4)]:
                with self.subTest(bend=bend, line=line):
                    self.assertEqual(last(*row, check(line)), [0] if bent <= bend else [-6, 3, 1])

    def test_the_ends_do_not_bend(self):
        row = told((2, 0, 0, 0), *[(3, None, (0, 0))] * 2)
        self.assertEqual(last(*row, check([1, 3])), [0])

    def test_the_first_kind_of_several(self):
        row = told((1, 0, 0, 0), 3, 3, 3, 3)
        # At point 0 it's too steep, at point 1 it bends, and at the last another height is fixed.
        self.assertEqual(last(*row, fix(3, 2), check([0, 6, 0, 3])), [-6, 1, 3])
        self.assertEqual(last(*row, check([0, 6, 0, 3])), [-6, 2, 0])
        # It bends at point 1, and only behind point 2 it's too steep.
        self.assertEqual(last(*row, check([3, 3, 4, 6])), [-6, 2, 2])
        self.assertEqual(last(*row, check([3, 3, 4, 5])), [-6, 3, 1])

    def test_it_is_told_ahead_of_wrong_hauls(self):
        row = told((0, 4, 0, 0), 3, 3, 3)
        self.assertEqual(last(*row, check([2, 2, 1])), [-6, 2, 1])
        self.assertEqual(last(*row, check([2, 2, 2])), [-7, 0, 1])
        self.assertEqual(last(*row, fix(2, 1), check([2, 2, 2], (0, 1, 5))), [-6, 1, 2])


class CheckWrongHauls(unittest.TestCase):
    def test_what_is_left_above_0_and_below_0(self):
        self.assertEqual(last(*LEVEL, check([1, 3, 3])), [-7, 0, 2])
        self.assertEqual(last(*LEVEL, check([3, 3, 5])), [-7, 2, -2])

    def test_the_first_point_of_several(self):
        self.assertEqual(last(*LEVEL, check([3, 4, 2])), [-7, 1, -1])
        self.assertEqual(last(*LEVEL, check([3, 2, 4])), [-7, 1, 1])
        self.assertEqual(last(*LEVEL, check([1, 3, 5], (0, 2, 1))), [-7, 0, 1])
        self.assertEqual(last(*LEVEL, check([1, 3, 5], (0, 1, 2))), [-7, 1, 2])

    def test_the_hauls_count(self):
        self.assertEqual(last(*LEVEL, check([3, 3, 3], (1, 2, 1000))), [-7, 1, -1000])
        self.assertEqual(last(*LEVEL, check([3, 3, 3], (2, 1, 1000), (0, 2, 0))), [-7, 1, 1000])
        self.assertEqual(last(*LEVEL, check([3, 3, 3], *[(2, 0, 1000)] * 20)), [-7, 0, 20000])

    def test_where_there_is_a_pit_nothing_is_wrong(self):
        self.assertEqual(last(*LEVEL, pit(0, 0, 0), check([1, 3, 5])), [-7, 2, -2])
        self.assertEqual(last(*LEVEL, pit(2, 0, 0), check([1, 3, 5])), [-7, 0, 2])
        self.assertEqual(last(*LEVEL, pit(0, 0, 0), pit(2, 0, 0), check([1, 3, 5])), [220])

    def test_left_is_told_with_what_the_ground_is(self):
        row = told((2, 4, 0, 0), 6, 4, 5)
        self.assertEqual(last(*row, check([4, 4, 4], (0, 1, 1))), [-7, 0, 1])
        self.assertEqual(last(*row, check([4, 4, 4], (0, 1, 2))), [-7, 1, 2])
        self.assertEqual(last(*row, check([4, 4, 4], (0, 1, 2), (1, 2, 2))), [-7, 2, 3])


class CheckInARow(unittest.TestCase):
    def test_the_calls_behind_it_are_read_where_they_begin(self):
        self.assertEqual(ask(*LEVEL, check([1, 3, 5], (0, 2, 2)), check([]), fix(0, 1), check([3, 3, 3]),
                             check([3], (0, 2, 2)), free(0), free(0)),
                         singles(0, 0, 1, 2, 224, -1, 0) + [3, -6, 1, 0] + singles(-1, 0, -4))


if __name__ == "__main__":
    unittest.main()
