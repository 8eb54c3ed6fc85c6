"""The call best: the least that's paid to build a road, and what is built for it.

What's behind a border is told by a list of costs, one for each number of units that may come over
the border: first for REACH units back, then for one less, up to REACH units onwards.
"""

from roadlaid.hauling import may_be_left, pit_cost
from roadlaid.lines import bends_too_much, fixed_otherwise, line_cost, too_steep, units_over
from roadlaid.told import MOST_HEIGHT

NO_RIGHT_LINE = -6

# A unit that's fetched at one point and tipped at another would cost less if it stayed. So where the least
# is paid, each unit on the way is over somewhere or lacking somewhere: no more than 6 for each of 5 points.
REACH = 30

# Stands for what can't be: more than any line and any carrying within REACH cost.
NEVER = 1000000


def best(road):
    """What best answers, as a list."""
    built = lines_built(road)
    if not built:
        return [NO_RIGHT_LINE]
    # The least of pairs has the least cost, and the earliest line that costs it.
    cheapest = min(built)
    least = cheapest[0]
    earliest = cheapest[1]
    as_good = [line for cost, line in built if cost == least]
    return [least, len(as_good)] + list(earliest) + earliest_way(road, earliest)


def lines_built(road):
    """Each right line that can be built, behind the least that it costs."""
    ends = [((), costs_past_the_last())]
    for point in range(len(road.grounds) - 1, -1, -1):
        ends = longer_ends(road, point, ends)
    built = []
    for line, costs in ends:
        # Nothing comes to the first point from outside.
        if costs[REACH] < NEVER:
            built.append((line_cost(road, line) + costs[REACH], line))
    return built


def longer_ends(road, point, ends):
    """The ends of right lines from this point on, each with its costs, out of those from the next point on.

    Lines with the same end share its costs: each line by itself would take many times as long.
    """
    longer = []
    for heights, costs in ends:
        costs_here = costs_at_point(road.pits[point], costs)
        for height in range(MOST_HEIGHT + 1):
            if fits_ahead(road, point, height, heights):
                over = road.grounds[point] - height
                longer.append(((height,) + heights, costs_ahead(costs_here, over)))
    return longer


def fits_ahead(road, point, height, heights):
    """Whether the end of a line stays right with this height, at this point, ahead of it."""
    if fixed_otherwise(road, point, height):
        return False
    if len(heights) > 0 and too_steep(road, height, heights[0]):
        return False
    return len(heights) < 2 or not bends_too_much(road, height, heights[0], heights[1])


def costs_past_the_last():
    """Behind the last point there is nothing, so nothing may come there."""
    return [NEVER] * REACH + [0] + [NEVER] * REACH


def costs_at_point(pit, costs):
    """The costs for the units that are at a point, out of those for the units that go on from it."""
    carried = [cost + abs(place - REACH) for place, cost in enumerate(costs)]
    if pit is None:
        return carried
    with_tipping = cheapened(carried, pit[0])
    # Fetching is tipping seen from the other end: from fewer units to more.
    with_fetching = cheapened(list(reversed(with_tipping)), pit[1])
    return list(reversed(with_fetching))


def cheapened(costs, price):
    """The costs where from each place one may go back to the one before it, at a price."""
    cheaper = [costs[0]]
    for cost in costs[1:]:
        cheaper.append(min(cost, cheaper[-1] + price))
    return cheaper


def costs_ahead(costs_here, over):
    """The costs for the units that come to a point where some are over, out of those for the units there."""
    if over >= 0:
        return costs_here[over:] + [NEVER] * over
    return [NEVER] * -over + costs_here[:over]


def earliest_way(road, line):
    """What goes over each border, by the earliest way that costs the least with this line."""
    over = units_over(road, line)
    costs = costs_along(road, over)
    way = []
    coming = 0
    for point in range(len(line) - 1):
        least = costs[point][coming + REACH]
        coming = fewest_onwards(road.pits[point], coming + over[point], costs[point + 1], least)
        way.append(coming)
    return way


def costs_along(road, over):
    """For each point the costs for the units that come to it, and those past the last."""
    along = [costs_past_the_last()]
    for point in range(len(over) - 1, -1, -1):
        costs_here = costs_at_point(road.pits[point], along[0])
        along.insert(0, costs_ahead(costs_here, over[point]))
    return along


def fewest_onwards(pit, units, costs, least):
    """The lowest number, of the units at a point, that goes on where all from there costs the least."""
    cheapest = []
    for place, cost in enumerate(costs):
        onwards = place - REACH
        left = units - onwards
        if may_be_left(pit, left) and pit_cost(pit, left) + abs(onwards) + cost == least:
            cheapest.append(onwards)
    return cheapest[0]
