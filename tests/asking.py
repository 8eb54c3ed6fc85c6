"""Calls written by their names, and what is answered to them."""

from roadlaid.road import answers
from roadlaid.told import Road

GREATEST = 4294967295


def begins(steep, bend, dig, fill):
    return [0, steep, bend, dig, fill]


def point(ground):
    return [1, ground]


def fix(number, height):
    return [2, number, height]


def free(number):
    return [3, number]


def pit(number, tipping, fetching):
    return [4, number, tipping, fetching]


def close(number):
    return [5, number]


def best():
    return [6]


def check(line, *hauls):
    """Each haul is from which point, to which, how many units."""
    return [7, len(line), *line, 3 * len(hauls), *listed(hauls)]


def listed(calls):
    return [number for call in calls for number in call]


def ask(*calls):
    return answers(listed(calls))


def singles(*numbers):
    """What is given back when each call answers one number."""
    return listed([1, number] for number in numbers)


def told(numbers, *points):
    """The calls that tell a road: what begins is told, then for each point its ground, what's fixed, its pit.

    A point is a ground alone, or a row of these three, with None where nothing is fixed or there's no pit.
    """
    calls = [begins(*numbers)]
    for number, row in enumerate(points):
        ground, height, prices = row if isinstance(row, tuple) else (row, None, None)
        calls.append(point(ground))
        if height is not None:
            calls.append(fix(number, height))
        if prices is not None:
            calls.append(pit(number, *prices))
    return calls


def last(*calls):
    """What the last call answers, with its count checked and taken off."""
    ahead = ask(*calls[:-1])
    given = ask(*calls)[len(ahead):]
    if given[0] != len(given) - 1:
        raise AssertionError(f"the count ahead of the answer is off: {given}")
    return given[1:]


def road_with(*grounds):
    road = Road()
    road.begins(1, 2, 3, 4)
    for ground in grounds:
        road.add_point(ground)
    return road


def state(road):
    return (road.steep, road.bend, road.dig, road.fill, list(road.grounds), list(road.fixed),
            list(road.pits))
