"""What is told of one road, and the calls that tell it."""

MOST_STEEP = 2
MOST_BEND = 4
MOST_PRICE = 100
MOST_HEIGHT = 6
MOST_POINTS = 5

NOT_ALLOWED = -1
NO_SUCH_POINT = -2
NOTHING_THERE = -4
NO_ROOM = -5


class Road:
    """One road: its own numbers, and for each point its ground, the height fixed there and its pit.

    A pit is a pair, what it costs to tip a unit and what to fetch one. None stands where nothing
    is fixed, and where there's no pit.
    """

    def __init__(self):
        self.steep = 0
        self.bend = 0
        self.dig = 0
        self.fill = 0
        self.grounds = []
        self.fixed = []
        self.pits = []

    def begins(self, steep, bend, dig, fill):
        if steep > MOST_STEEP or bend > MOST_BEND or dig > MOST_PRICE or fill > MOST_PRICE:
            return NOT_ALLOWED
        self.steep = steep
        self.bend = bend
        self.dig = dig
        self.fill = fill
        self.grounds = []
        self.fixed = []
        self.pits = []
        return 0

    def add_point(self, ground):
        # The document tells the refusal of the height ahead of the one of a full road.
        if ground > MOST_HEIGHT:
            return NOT_ALLOWED
        if len(self.grounds) == MOST_POINTS:
            return NO_ROOM
        self.grounds.append(ground)
        self.fixed.append(None)
        self.pits.append(None)
        return len(self.grounds) - 1

    def fix(self, point, height):
        if not self.has_point(point):
            return NO_SUCH_POINT
        if height > MOST_HEIGHT:
            return NOT_ALLOWED
        self.fixed[point] = height
        return 0

    def free(self, point):
        return self.take_away(self.fixed, point)

    def pit(self, point, tipping, fetching):
        if not self.has_point(point):
            return NO_SUCH_POINT
        if tipping > MOST_PRICE or fetching > MOST_PRICE:
            return NOT_ALLOWED
        self.pits[point] = (tipping, fetching)
        return 0

    def close(self, point):
        return self.take_away(self.pits, point)

    def take_away(self, kept, point):
        if not self.has_point(point):
            return NO_SUCH_POINT
        # A height of 0 is fixed as well as any other, so only None says that there's none.
        if kept[point] is None:
            return NOTHING_THERE
        kept[point] = None
        return 0

    def has_point(self, point):
        return point < len(self.grounds)
