"""Hauls along a line: what each point has left behind them, and what it costs to be rid of that."""

from roadlaid.lines import priced, units_over


def units_left(road, line, hauls):
    """What each point has left behind the hauls (from which point, to which, how many units)."""
    left = units_over(road, line)
    for source, target, units in hauls:
        left[source] -= units
        left[target] += units
    return left


def carrying_cost(hauls):
    return sum([abs(target - source) * units for source, target, units in hauls])


def may_be_left(pit, left):
    return pit is not None or left == 0


def pit_cost(pit, left):
    """What tipping or fetching costs at a point, where so much may be left there."""
    if pit is None:
        return 0
    return priced(left, pit[0], pit[1])
