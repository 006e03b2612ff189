"""A set of points, and what each call on it answers."""

from pointgroups.lowest import lowest_first, lowest_terms
from pointgroups.merges import ALL_PAIRS, NEAREST_TWO, group_at_cut, kth_merge
from pointgroups.middles import cost_of, part_points
from pointgroups.places import dense_places

MOST_POINTS = 256
MOST_GROUPS = 16
MOST_ROUNDS = 1000
MOST_LEAST = 256
COST_BYTES = 32

OUTSIDE = -1
FULL = -2
NOT_PARTED = -4


def within(number, low, high):
    return low <= number and number <= high


# Each method that is a call answers a list: the number that is answered first, then what else is told.
class PointSet:
    def __init__(self):
        self.points = []
        self.parting = None

    def has_point(self, point):
        return within(point, 0, len(self.points) - 1)

    def begin(self):
        self.points = []
        self.parting = None
        return [0]

    def point(self, numbers):
        if len(self.points) >= MOST_POINTS:
            return [FULL]
        self.points.append(tuple(numbers))
        self.parting = None
        return [len(self.points) - 1]

    def part(self, k, rounds):
        if not within(k, 1, min(MOST_GROUPS, len(self.points))):
            return [OUTSIDE]
        if not within(rounds, 0, MOST_ROUNDS):
            return [OUTSIDE]
        self.parting = part_points(self.points, k, rounds)
        return [self.parting.rounds]

    def group(self, point):
        if self.parting is None:
            return [NOT_PARTED]
        if not self.has_point(point):
            return [OUTSIDE]
        return [self.parting.chosen[point]]

    def middle(self, group):
        if self.parting is None:
            return [NOT_PARTED]
        if not within(group, 0, len(self.parting.middles) - 1):
            return [OUTSIDE]
        found = self.parting.middles[group]
        return [found.size] + found.sums

    def cost(self):
        if self.parting is None:
            return [NOT_PARTED]
        found = cost_of(self.points, self.parting)
        return [0] + lowest_first(found[0], COST_BYTES) + lowest_first(found[1], COST_BYTES)

    def dense(self, radius, least, point):
        if not within(least, 1, MOST_LEAST) or not self.has_point(point):
            return [OUTSIDE]
        return [dense_places(self.points, radius, least).chosen[point]]

    def denses(self, radius, least):
        if not within(least, 1, MOST_LEAST):
            return [OUTSIDE]
        return [dense_places(self.points, radius, least).how_many]

    def merge(self, kind, k):
        # The last merge leaves a single group, so there is one less than there are points.
        if not within(kind, NEAREST_TWO, ALL_PAIRS) or not within(k, 0, len(self.points) - 2):
            return [OUTSIDE]
        found = kth_merge(self.points, kind, k)
        return [0, found.first, found.second] + list(lowest_terms(found.gap.total, found.gap.pairs))

    def cut(self, kind, groups, point):
        if not within(kind, NEAREST_TWO, ALL_PAIRS) or not within(groups, 1, len(self.points)):
            return [OUTSIDE]
        if not self.has_point(point):
            return [OUTSIDE]
        return [group_at_cut(self.points, kind, groups, point)]
