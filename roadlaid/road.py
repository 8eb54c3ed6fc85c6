"""A list of calls about one road, and what they answer."""

from roadlaid.checking import check
from roadlaid.least import best
from roadlaid.told import Road

BEGINS = 0
POINT = 1
FIX = 2
FREE = 3
PIT = 4
CLOSE = 5
BEST = 6
CHECK = 7

# How many numbers stand behind the number of each call that has no rows: begins, point, fix, free, pit, close, best.
NUMBERS_BEHIND = {0: 4, 1: 1, 2: 2, 3: 1, 4: 3, 5: 1, 6: 0}


def answers(calls):
    """For each call, in order: how many numbers it answers, then these."""
    road = Road()
    given = []
    start = 0
    while start < len(calls):
        end = call_end(calls, start)
        answered = answer(road, calls[start], calls[start + 1:end])
        given.append(len(answered))
        given.extend(answered)
        start = end
    return given


def call_end(calls, start):
    """Where the call that begins at start ends."""
    if calls[start] == CHECK:
        hauls_start = row_end(calls, start + 1)
        return row_end(calls, hauls_start)
    return start + 1 + NUMBERS_BEHIND[calls[start]]


def row_end(numbers, start):
    """Where the row ends whose length stands at start."""
    return start + 1 + numbers[start]


def answer(road, call, numbers):
    """What one call answers, as a list, since a call may answer several numbers."""
    if call == BEGINS:
        return [road.begins(numbers[0], numbers[1], numbers[2], numbers[3])]
    if call == POINT:
        return [road.add_point(numbers[0])]
    if call == FIX:
        return [road.fix(numbers[0], numbers[1])]
    if call == FREE:
        return [road.free(numbers[0])]
    if call == PIT:
        return [road.pit(numbers[0], numbers[1], numbers[2])]
    if call == CLOSE:
        return [road.close(numbers[0])]
    if call == BEST:
        return best(road)
    # call_end has let through no other call than check.
    line_end = row_end(numbers, 0)
    return check(road, numbers[1:line_end], in_threes(numbers[line_end + 1:]))


def in_threes(numbers):
    return [numbers[start:start + 3] for start in range(0, len(numbers), 3)]
