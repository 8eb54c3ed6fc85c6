"""Best held against a search that tries all, and against check."""

import itertools
import unittest

from asking import ask, best, check, last, told

HARDEST = ((2, 4, 3, 4), *[(ground, None, prices) for ground, prices in
                           zip((6, 0, 5, 1, 6), ((9, 2), (3, 8), (1, 1), (0, 6), (7, 5)))])


class Numbers:
    """Numbers that look mixed, and are the same at each run."""

    def __init__(self, start):
        self.kept = start

    def below(self, limit):
        self.kept = (self.kept * 1103515245 + 12345) % 2147483648
        return self.kept // 65536 % limit

    def one_of(self, *values):
        return values[self.below(len(values))]


def mixed_road(numbers, points, pits, fixed):
    """A road with as many points; of 10 points so many have a pit, and so many a fixed height."""
    begun = (numbers.below(3), numbers.below(5), numbers.one_of(0, 1, 2, 5, 100), numbers.one_of(0, 1, 3, 100))
    rows = []
    for place in range(points):
        prices = (numbers.one_of(0, 1, 2, 3, 100), numbers.one_of(0, 1, 2, 4, 100))
        rows.append((numbers.below(7), numbers.below(7) if numbers.below(10) < fixed else None,
                     prices if numbers.below(10) < pits else None))
    return begun, *rows


def one_line_road(numbers, points, pits):
    """A road with each height fixed, so that one line is right, and no more than one unit over or lacking anywhere."""
    height = 3
    rows = []
    for place in range(points):
        height = min(max(height + numbers.one_of(-1, 0, 1), 1), 5)
        prices = (numbers.below(4), numbers.below(4))
        rows.append((height + numbers.one_of(-1, 0, 1), height, prices if numbers.below(10) < pits else None))
    return (2, 4, numbers.below(4), numbers.below(4)), *rows


def right_lines(road):
    (steep, bend, *prices), *points = road
    for line in itertools.product(range(7), repeat=len(points)):
        if (all(height in (line[place], None) for place, (ground, height, pit) in enumerate(points))
                and all(abs(a - b) <= steep for a, b in zip(line, line[1:]))
                and all(abs(a + c - 2 * b) <= bend for a, b, c in zip(line, line[1:], line[2:]))):
            yield line


def over_along(road, line):
    return [row[0] - height for row, height in zip(road[1:], line)]


def line_costs(road, line):
    dig, fill = road[0][2:]
    return sum(units * dig if units > 0 else -units * fill for units in over_along(road, line))


def way_costs(road, over, way):
    """What hauls cost at the least that carry so much over each border; None where they're wrong."""
    cost = 0
    for place, (ground, height, prices) in enumerate(road[1:]):
        come = way[place - 1] if place > 0 else 0
        gone = way[place] if place < len(way) else 0
        left = over[place] + come - gone
        if left and prices is None:
            return None
        if left:
            cost += left * prices[0] if left > 0 else -left * prices[1]
    return cost + sum(map(abs, way))


def tried(road, most):
    """What best has to answer, out of every right line with every way of up to so many units over each border."""
    found = []
    for line in right_lines(road):
        over = over_along(road, line)
        paid = [(way_costs(road, over, way), way)
                for way in itertools.product(range(-most, most + 1), repeat=max(len(line) - 1, 0))]
        paid = [pair for pair in paid if pair[0] is not None]
        if paid:
            cost, way = min(paid)
            found.append((cost + line_costs(road, line), line, way))
    if not found:
        return [-6]
    least, line, way = min(found)
    return [least, len([row for row in found if row[0] == least]), *line, *way]


def stretch_costs(road, over, first, end):
    """The least for a stretch to which nothing comes and from which nothing goes, with one pit used or none."""
    costs = []
    for place in range(first, end):
        prices = road[1 + place][2]
        rest = sum(over[first:end])
        if prices is None and rest != 0:
            continue
        mine = list(over)
        mine[place] -= rest
        carried = sum(abs(sum(mine[first:border])) for border in range(first + 1, end))
        costs.append(carried + (rest * prices[0] if rest > 0 else -rest * prices[1] if rest < 0 else 0))
    return min(costs, default=None)


def line_paid(road, line):
    """The least that a line costs, out of all ways to part the road into such stretches; None where there's none."""
    over = over_along(road, line)
    least = [0]
    for end in range(1, len(line) + 1):
        costs = [(least[first], stretch_costs(road, over, first, end)) for first in range(end)]
        least.append(min([ahead + cost for ahead, cost in costs if ahead is not None and cost is not None],
                         default=None))
    return None if least[-1] is None else least[-1] + line_costs(road, line)


def parted(road):
    """What best has to answer up to the line, out of every right line."""
    paid = [(line_paid(road, line), line) for line in right_lines(road)]
    paid = [pair for pair in paid if pair[0] is not None]
    if not paid:
        return [-6]
    least, line = min(paid)
    return [least, len([pair for pair in paid if pair[0] == least]), *line]


def hauls_over(way):
    """Hauls that carry over each border what's told, each from a point to the next."""
    hauls = []
    for border, units in enumerate(way):
        hauls.append((border, border + 1, units) if units >= 0 else (border + 1, border, -units))
    return hauls


class BestTried(unittest.TestCase):
    def held(self, roads, most):
        # At the least one of the roads can be built and one can't, or they'd show too little.
        kinds = set()
        for road in roads:
            with self.subTest(road=road):
                given = last(*told(*road), best())
                self.assertEqual(given, tried(road, most))
                kinds.add(len(given) > 1)
        self.assertEqual(kinds, {True, False})

    def test_1_point(self):
        numbers = Numbers(1)
        self.held([mixed_road(numbers, 1, 5, 3) for turn in range(60)], 0)

    def test_2_points(self):
        numbers = Numbers(2)
        self.held([mixed_road(numbers, 2, pits, 2) for pits in (0, 3, 6, 10) for turn in range(50)], 14)

    def test_3_points(self):
        numbers = Numbers(3)
        self.held([mixed_road(numbers, 3, pits, 2) for pits in (0, 3, 6, 10) for turn in range(12)], 18)

    def test_4_and_5_points_with_one_line(self):
        numbers = Numbers(4)
        self.held([one_line_road(numbers, points, pits) for points in (4, 5) for pits in (0, 3, 6, 10)
                   for turn in range(10)], 5)

    def test_up_to_5_points_by_stretches(self):
        numbers = Numbers(6)
        for points in (0, 1, 2, 3, 4, 5):
            for pits in (0, 3, 6, 10):
                for turn in range(4):
                    road = mixed_road(numbers, points, pits, 1)
                    with self.subTest(road=road):
                        due = parted(road)
                        self.assertEqual(last(*told(*road), best())[:len(due)], due)


class BestHardest(unittest.TestCase):
    def test_it_is_the_least_of_all_lines(self):
        self.assertEqual(parted(HARDEST), [32, 2, 4, 2, 4, 2, 4])
        self.assertEqual(last(*told(*HARDEST), best()), [32, 2, 4, 2, 4, 2, 4, 2, 0, 0, -2])

    def test_49_times_in_one_list(self):
        calls = told(*HARDEST)
        ahead = ask(*calls)
        self.assertEqual(ask(*calls, *[best()] * 49)[len(ahead):], [11, 32, 2, 4, 2, 4, 2, 4, 2, 0, 0, -2] * 49)


class BestAndCheck(unittest.TestCase):
    def test_what_best_tells_costs_what_best_tells(self):
        numbers = Numbers(7)
        built = 0
        for turn in range(200):
            road = mixed_road(numbers, turn % 5 + 1, turn % 11, 1)
            calls = told(*road)
            given = last(*calls, best())
            if given == [-6]:
                continue
            built += 1
            line = given[2:2 + len(road) - 1]
            way = given[2 + len(line):]
            with self.subTest(road=road):
                self.assertEqual(last(*calls, check(line, *hauls_over(way))), given[:1])
        self.assertGreater(built, 100)


if __name__ == "__main__":
    unittest.main()
