"""Promises 7 to 10 once more: many lines against a plain telling of the words, pair of points by pair of points."""

import unittest
from fractions import Fraction

from tests.lines import NO_GROUP, ask_all, begin, cut, dense, denses, merge, point
from tests.spread import Numbers, far


def told_places(points, radius, least):
    """Each point's group at dense places, and how many groups there are."""
    numbers = range(len(points))
    near = [[other for other in numbers if far(points[one], points[other]) <= radius] for one in numbers]
    alike = {one: one for one in numbers if len(near[one]) >= least}
    # The least number goes along each chain until none moves any more.
    while True:
        moved = {one: min(alike[other] for other in near[one] if other in alike) for one in alike}
        if moved == alike:
            break
        alike = moved
    firsts = sorted(set(alike.values()))
    groups = []
    for one in numbers:
        if one in alike:
            groups.append(firsts.index(alike[one]))
        else:
            groups.append(min([firsts.index(alike[other]) for other in near[one] if other in alike],
                              default=NO_GROUP))
    return groups, len(firsts)


def told_apart(points, kind, one, other):
    fars = [far(points[a], points[b]) for a in one for b in other]
    return (Fraction(min(fars)), Fraction(max(fars)), Fraction(sum(fars), len(fars)))[kind]


def told_merges(points, kind):
    """All merges, and the groups behind none of them, one of them and so on."""
    groups = [[number] for number in range(len(points))]
    merges = []
    stages = [groups]
    while len(groups) > 1:
        pairs = [(one, other) for place, one in enumerate(groups) for other in groups[place + 1:]]
        fars = [told_apart(points, kind, one, other) for one, other in pairs]
        one, other = pairs[fars.index(min(fars))]
        merges.append([0, one[0], other[0], min(fars).numerator, min(fars).denominator])
        groups = sorted([group for group in groups if group not in (one, other)] + [sorted(one + other)])
        stages.append(groups)
    return merges, stages


class AgainstPairsTest(unittest.TestCase):
    def check_places(self, points, radius, least):
        groups, how_many = told_places(points, radius, least)
        before = [begin()] + [point(*one) for one in points]
        calls = [dense(radius, least, number) for number in range(len(points))] + [denses(radius, least)]
        self.assertEqual(ask_all(before, calls), [[number] for number in groups] + [[how_many]],
                         (points, radius, least))

    def check_merges(self, points, kind):
        merges, stages = told_merges(points, kind)
        before = [begin()] + [point(*one) for one in points]
        calls = [merge(kind, k) for k in range(len(merges))]
        expected = list(merges)
        for groups in stages:
            for number in range(len(points)):
                calls.append(cut(kind, len(groups), number))
                expected.append([[number in group for group in groups].index(True)])
        self.assertEqual(ask_all(before, calls), expected, (points, kind))

    def run_lines(self, seed, lines, least, spread, width):
        numbers = Numbers(seed)
        for line in range(lines):
            points = numbers.points(1 + numbers.below(12), least, spread, width)
            fars = sorted({far(one, other) for one in points for other in points})
            for attempt in range(4):
                # Just below a distance that there is, at it, and just above.
                radius = max(0, fars[numbers.below(len(fars))] + numbers.below(3) - 1)
                self.check_places(points, radius, 1 + numbers.below(5))
            for kind in (0, 1, 2):
                self.check_merges(points, kind)

    def test_points_on_a_row_with_many_ties(self):
        self.run_lines(1, 60, -3, 7, 1)

    def test_points_on_a_small_square(self):
        self.run_lines(2, 60, -2, 5, 2)

    def test_points_in_all_eight_numbers(self):
        self.run_lines(3, 30, -1, 3, 8)

    def test_points_all_over(self):
        self.run_lines(4, 30, -32768, 65536, 8)
