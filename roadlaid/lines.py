"""A line, a height for each point of a road: what's wrong with it, what's over along it, what it costs."""

OTHER_HEIGHT_FIXED = 1
TOO_STEEP = 2
BENT_TOO_MUCH = 3


def first_wrong(road, line):
    """What's wrong first, and the point, as a list of both; None where the line is right."""
    for point, height in enumerate(line):
        if fixed_otherwise(road, point, height):
            return [OTHER_HEIGHT_FIXED, point]
    for point in range(len(line) - 1):
        if too_steep(road, line[point], line[point + 1]):
            return [TOO_STEEP, point]
    for point in range(1, len(line) - 1):
        if bends_too_much(road, line[point - 1], line[point], line[point + 1]):
            return [BENT_TOO_MUCH, point]
    return None


def fixed_otherwise(road, point, height):
    return road.fixed[point] is not None and road.fixed[point] != height


def too_steep(road, height, next_height):
    return abs(next_height - height) > road.steep


def bends_too_much(road, height_before, height, next_height):
    return abs(height_before + next_height - 2 * height) > road.bend


def units_over(road, line):
    """How many units are over at each point (below 0: lacking)."""
    return [ground - height for ground, height in zip(road.grounds, line)]


def line_cost(road, line):
    return sum([priced(units, road.dig, road.fill) for units in units_over(road, line)])


def priced(units, above, below):
    """What units cost that have one price above 0, and another one below."""
    if units > 0:
        return units * above
    return -units * below
