"""The call check: what a line with hauls costs, or what's wrong with it."""

from roadlaid.hauling import carrying_cost, may_be_left, pit_cost, units_left
from roadlaid.lines import first_wrong, line_cost
from roadlaid.told import MOST_HEIGHT, NOT_ALLOWED

MOST_HAULS = 20
MOST_UNITS = 1000

WRONG_LINE = -6
WRONG_HAULS = -7


def check(road, line, hauls):
    """What check answers, as a list."""
    if not line_allowed(road, line) or not hauls_allowed(road, hauls):
        return [NOT_ALLOWED]
    wrong = first_wrong(road, line)
    if wrong is not None:
        return [WRONG_LINE] + wrong
    left = units_left(road, line, hauls)
    for point, pit in enumerate(road.pits):
        if not may_be_left(pit, left[point]):
            return [WRONG_HAULS, point, left[point]]
    pits_cost = sum([pit_cost(pit, units) for pit, units in zip(road.pits, left)])
    return [line_cost(road, line) + carrying_cost(hauls) + pits_cost]


def line_allowed(road, line):
    return len(line) == len(road.grounds) and all([height <= MOST_HEIGHT for height in line])


def hauls_allowed(road, hauls):
    return len(hauls) <= MOST_HAULS and all([haul_allowed(road, haul) for haul in hauls])


def haul_allowed(road, haul):
    source = haul[0]
    target = haul[1]
    return road.has_point(source) and road.has_point(target) and source != target and haul[2] <= MOST_UNITS
