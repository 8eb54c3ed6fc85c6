"""What is told of one road, and the calls that tell it."""

MOST_STEEP = 2
MOST_BEND = 4
MOST_PRICE = 100
MOST_HEIGHT = 6
MOST_POINTS = 5

TOO_GREAT = -1
NO_SUCH_POINT = -2
NOTHING_THERE = -4
NO_ROOM = -5


class Road:
    """One road: its own numbers, and for each point its ground and the height fixed there, or None."""

    def __init__(self):
        self.steep = 0
        self.bend = 0
        self.dig = 0
        self.fill = 0
        self.grounds = []
        self.fixed = []

    def begins(self, steep, bend, dig, fill):
        if steep > MOST_STEEP or bend > MOST_BEND or dig > MOST_PRICE or fill > MOST_PRICE:
            return TOO_GREAT
        self.steep = steep
        self.bend = bend
        self.dig = dig
        self.fill = fill
        self.grounds = []
        self.fixed = []
        return 0

    def add_point(self, ground):
        # The document tells the refusal of the height ahead of the one of a full road.
        if ground > MOST_HEIGHT:
            return TOO_GREAT
        if len(self.grounds) == MOST_POINTS:
            return NO_ROOM
        self.grounds.append(ground)
        self.fixed.append(None)
        return len(self.grounds) - 1

    def fix(self, point, height):
        if not self.has_point(point):
            return NO_SUCH_POINT
        if height > MOST_HEIGHT:
            return TOO_GREAT
        self.fixed[point] = height
        return 0

    def free(self, point):
        if not self.has_point(point):
            return NO_SUCH_POINT
        # A height of 0 is fixed as well as any other, so only None says that there's none.
        if self.fixed[point] is None:
            return NOTHING_THERE
        self.fixed[point] = None
        return 0

    def has_point(self, point):
        return point < len(self.grounds)
