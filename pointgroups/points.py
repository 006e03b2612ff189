"""A set of points, and what each call on it answers."""

from pointgroups.middles import part_points

MOST_POINTS = 256
MOST_GROUPS = 16
MOST_ROUNDS = 1000

OUTSIDE = -1
FULL = -2
NOT_PARTED = -4


# Each method answers a list: the number that is answered first, then what else is told.
class PointSet:
    def __init__(self):
        self.points = []
        self.parting = None

    def begin(self):
        self.points = []
        self.parting = None
        return [0]

    def point(self, numbers):
        if len(self.points) >= MOST_POINTS:
            return [FULL]
        self.points.append(tuple(numbers))
        self.parting = None
        return [len(self.points) - 1]

    def part(self, k, rounds):
        if k < 1 or k > MOST_GROUPS or k > len(self.points):
            return [OUTSIDE]
        if rounds < 0 or rounds > MOST_ROUNDS:
            return [OUTSIDE]
        self.parting = part_points(self.points, k, rounds)
        return [self.parting.rounds]

    def group(self, point):
        if self.parting is None:
            return [NOT_PARTED]
        if point < 0 or point >= len(self.points):
            return [OUTSIDE]
        return [self.parting.chosen[point]]

    def middle(self, group):
        if self.parting is None:
            return [NOT_PARTED]
        if group < 0 or group >= len(self.parting.middles):
            return [OUTSIDE]
        found = self.parting.middles[group]
        return [found.size] + found.sums
