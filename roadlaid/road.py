"""A list of calls about one road, and what they answer."""

from roadlaid.told import Road

BEGINS = 0
POINT = 1
FIX = 2

# How many numbers stand behind the number of each call: begins, point, fix, free.
NUMBERS_BEHIND = {0: 4, 1: 1, 2: 2, 3: 1}


def answers(calls):
    """For each call, in order: how many numbers it answers, then these."""
    road = Road()
    given = []
    start = 0
    while start < len(calls):
        call = calls[start]
        end = start + 1 + NUMBERS_BEHIND[call]
        answered = answer(road, call, calls[start + 1:end])
        given.append(len(answered))
        given.extend(answered)
        start = end
    return given


def answer(road, call, numbers):
    """What one call answers, as a list, since a call may answer several numbers."""
    if call == BEGINS:
        return [road.begins(numbers[0], numbers[1], numbers[2], numbers[3])]
    if call == POINT:
        return [road.add_point(numbers[0])]
    if call == FIX:
        return [road.fix(numbers[0], numbers[1])]
    # NUMBERS_BEHIND has let through no other call than free.
    return [road.free(numbers[0])]
