"""Promises 3 to 6 once more: many lines against a plain telling of the words in fractions."""

import unittest
from fractions import Fraction

from tests.lines import ask_behind, begin, cost, group, middle, part, point, told_cost
from tests.spread import Numbers, far


def nearest(one, middles):
    fars = [far(one, [Fraction(number, size) for number in sums]) for size, sums in middles]
    return fars.index(min(fars))


def told_parting(points, k, rounds):
    middles = [(1, list(one)) for one in points[:k]]
    groups = [nearest(one, middles) for one in points]
    count = 1
    for attempt in range(rounds):
        for number in range(k):
            members = [one for one, where in zip(points, groups) if where == number]
            if members:
                middles[number] = (len(members), [sum(column) for column in zip(*members)])
        renewed = [nearest(one, middles) for one in points]
        if renewed == groups:
            break
        groups = renewed
        count += 1
    return count, groups, middles


def told_far(points, groups, middles):
    """The cost as a fraction, from each point's own group alone."""
    total = Fraction(0)
    for one, number in zip(points, groups):
        size, sums = middles[number]
        total += far(one, [Fraction(place, size) for place in sums])
    return total


class AgainstFractionsTest(unittest.TestCase):
    def check(self, points, k, rounds):
        count, groups, middles = told_parting(points, k, rounds)
        before = [begin()] + [point(*one) for one in points]
        calls = [part(k, rounds)]
        calls += [group(number) for number in range(len(points))]
        calls += [middle(number) for number in range(k)]
        calls += [cost()]
        expected = [[count]] + [[number] for number in groups] + [[size] + sums for size, sums in middles]
        together = told_far(points, groups, middles)
        expected += [told_cost(together.numerator, together.denominator)]
        self.assertEqual(ask_behind(before, *calls), expected, (points, k, rounds))

    def run_lines(self, seed, lines, least, spread, width):
        numbers = Numbers(seed)
        for line in range(lines):
            many = 1 + numbers.below(20)
            points = numbers.points(many, least, spread, width)
            k = 1 + numbers.below(min(many, 16))
            self.check(points, k, (0, 1, 2, 3, 1000)[numbers.below(5)])

    def test_points_on_a_row_with_many_ties(self):
        self.run_lines(1, 200, -3, 7, 1)

    def test_points_on_a_small_square(self):
        self.run_lines(2, 200, -2, 5, 2)

    def test_points_in_all_eight_numbers(self):
        self.run_lines(3, 60, -1, 3, 8)

    def test_points_all_over(self):
        self.run_lines(4, 60, -32768, 65536, 8)
