"""Calls written by their names, and what is answered to them."""

from roadlaid.road import answers
from roadlaid.told import Road

GREATEST = 4294967295


def begins(steep, bend, dig, fill):
    return [0, steep, bend, dig, fill]


def point(ground):
    return [1, ground]


def fix(number, height):
    return [2, number, height]


def free(number):
    return [3, number]


def listed(calls):
    return [number for call in calls for number in call]


def ask(*calls):
    return answers(listed(calls))


def singles(*numbers):
    """What is given back when each call answers one number."""
    return listed([1, number] for number in numbers)


def road_with(*grounds):
    road = Road()
    road.begins(1, 2, 3, 4)
    for ground in grounds:
        road.add_point(ground)
    return road


def state(road):
    return (road.steep, road.bend, road.dig, road.fill, list(road.grounds), list(road.fixed))
