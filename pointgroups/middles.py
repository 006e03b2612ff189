"""Middles of points, the parting of points into groups round them, and what that costs."""

from pointgroups.apart import far_apart
from pointgroups.lowest import lowest_terms

WIDTH = 8


# Sum and size stay apart, so that the place (sum by size) is never rounded.
class Middle:
    def __init__(self, size, sums):
        self.size = size
        self.sums = sums


class Parting:
    def __init__(self, middles, chosen, rounds):
        self.middles = middles
        self.chosen = chosen
        self.rounds = rounds


def middle_of(points):
    sums = [0] * WIDTH
    for point in points:
        sums = [total + number for total, number in zip(sums, point)]
    return Middle(len(points), sums)


# How far the point is from the middle's place, times the size squared: that keeps it whole.
def scaled_far(point, middle):
    return far_apart([middle.size * number for number in point], middle.sums)


def nearest_middle(point, middles):
    best = 0
    best_far = scaled_far(point, middles[0])
    for place, middle in enumerate(middles):
        far = scaled_far(point, middle)
        # Each side is times both sizes squared; only what is truly less wins, so of several the first stays.
        if far * middles[best].size ** 2 < best_far * middle.size ** 2:
            best = place
            best_far = far
    return best


def choose_groups(points, middles):
    return [nearest_middle(point, middles) for point in points]


def renewed_middles(points, chosen, middles):
    renewed = []
    for place, middle in enumerate(middles):
        members = [point for point, group in zip(points, chosen) if group == place]
        renewed.append(middle_of(members) if members else middle)
    return renewed


def part_points(points, k, most_rounds):
    middles = [middle_of([point]) for point in points[:k]]
    chosen = choose_groups(points, middles)
    # The first round counts, but not among those that most_rounds bounds.
    rounds = 1
    while rounds <= most_rounds:
        middles = renewed_middles(points, chosen, middles)
        moved = choose_groups(points, middles)
        if moved == chosen:
            break
        chosen = moved
        rounds += 1
    return Parting(middles, chosen, rounds)


# The middles are those by which the points were placed: where rounds ran out, not those of the groups' points.
def cost_of(points, parting):
    divided = 0
    divisor = 1
    for place, middle in enumerate(parting.middles):
        fars = [scaled_far(point, middle) for point, group in zip(points, parting.chosen) if group == place]
        divided = divided * middle.size ** 2 + sum(fars) * divisor
        divisor = divisor * middle.size ** 2
    return lowest_terms(divided, divisor)
