"""Promises 3 to 5 once more: many lines against a plain telling of the words in fractions."""

import unittest
from fractions import Fraction

from tests.lines import ask_behind, begin, group, middle, part, point


class Numbers:
    """The same numbers each time, spread well enough to make lines of."""

    def __init__(self, seed):
        self.state = seed

    def below(self, bound):
        self.state = (self.state * 6364136223846793005 + 1442695040888963407) % 2 ** 64
        return (self.state >> 33) % bound


def far(one, other):
    return sum((a - b) ** 2 for a, b in zip(one, other))


def nearest(one, middles):
    fars = [far(one, [Fraction(number, size) for number in sums]) for size, sums in middles]
    return fars.index(min(fars))


def told_parting(points, k, rounds):
    middles = [(1, list(one)) for one in points[:k]]
    groups = [nearest(one, middles) for one in points]
    count = 1
    for attempt in range(rounds):
        for number in range(k):
            members = [one for one, where in zip(points, groups) if where == number]
            if members:
                middles[number] = (len(members), [sum(column) for column in zip(*members)])
        renewed = [nearest(one, middles) for one in points]
        if renewed == groups:
            break
        groups = renewed
        count += 1
    return count, groups, middles


class AgainstFractionsTest(unittest.TestCase):
    def check(self, points, k, rounds):
        count, groups, middles = told_parting(points, k, rounds)
        before = [begin()] + [point(*one) for one in points]
        calls = [part(k, rounds)]
        calls += [group(number) for number in range(len(points))]
        calls += [middle(number) for number in range(k)]
        expected = [[count]] + [[number] for number in groups] + [[size] + sums for size, sums in middles]
        self.assertEqual(ask_behind(before, *calls), expected, (points, k, rounds))

    def run_lines(self, seed, lines, least, spread, width):
        numbers = Numbers(seed)
        for line in range(lines):
            many = 1 + numbers.below(20)
            points = [[least + numbers.below(spread) for place in range(width)] + [0] * (8 - width)
                      for one in range(many)]
            k = 1 + numbers.below(min(many, 16))
            self.check(points, k, (0, 1, 2, 3, 1000)[numbers.below(5)])

    def test_points_on_a_row_with_many_ties(self):
        self.run_lines(1, 200, -3, 7, 1)

    def test_points_on_a_small_square(self):
        self.run_lines(2, 200, -2, 5, 2)

    def test_points_in_all_eight_numbers(self):
        self.run_lines(3, 60, -1, 3, 8)

    def test_points_all_over(self):
        self.run_lines(4, 60, -32768, 65536, 8)
