"""Merges of points into groups, step by step, the least far apart first."""

from pointgroups.apart import far_apart

NEAREST_TWO = 0
FARTHEST_TWO = 1
ALL_PAIRS = 2


# How far apart two groups are: total by pairs. For a single pair of points pairs is 1.
class Gap:
    def __init__(self, total, pairs):
        self.total = total
        self.pairs = pairs


# A group goes by the number of its first point, which a merge leaves as it is.
class Merge:
    def __init__(self, first, second, gap):
        self.first = first
        self.second = second
        self.gap = gap


def is_less(one, other):
    return one.total * other.pairs < other.total * one.pairs


# The gap of a third group to two that are merged, from its gaps to either.
def joined_gap(kind, one, other):
    if kind == NEAREST_TWO:
        return other if is_less(other, one) else one
    if kind == FARTHEST_TWO:
        return other if is_less(one, other) else one
    return Gap(one.total + other.total, one.pairs + other.pairs)


def in_order(one, other):
    return (min(one, other), max(one, other))


def gaps_of_points(points):
    gaps = {}
    for second, point in enumerate(points):
        for first, other in enumerate(points[:second]):
            gaps[(first, second)] = Gap(far_apart(other, point), 1)
    return gaps


def least_pair(groups, gaps):
    best = (groups[0], groups[1])
    for place, first in enumerate(groups):
        for second in groups[place + 1:]:
            # Only what is truly less wins, so of several the first pair stays.
            if is_less(gaps[(first, second)], gaps[best]):
                best = (first, second)
    return best


def join_gaps(kind, groups, gaps, merge):
    for group in groups:
        if group != merge.first:
            pair = in_order(merge.first, group)
            gaps[pair] = joined_gap(kind, gaps[pair], gaps[in_order(merge.second, group)])


def first_merges(points, kind, many):
    groups = list(range(len(points)))
    gaps = gaps_of_points(points)
    merges = []
    while len(merges) < many:
        pair = least_pair(groups, gaps)
        merge = Merge(pair[0], pair[1], gaps[pair])
        groups.remove(merge.second)
        join_gaps(kind, groups, gaps, merge)
        merges.append(merge)
    return merges


def kth_merge(points, kind, k):
    return first_merges(points, kind, k + 1)[k]


def group_at_cut(points, kind, many, point):
    groups = list(range(len(points)))
    group = point
    for merge in first_merges(points, kind, len(points) - many):
        groups.remove(merge.second)
        if group == merge.second:
            group = merge.first
    return groups.index(group)
