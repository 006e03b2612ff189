"""Promises 3 to 5: part, group and middle."""

import unittest

from tests.lines import LEAST, MOST, ask, ask_behind, ask_last, begin, group, middle, part, point, told

# Worked by hand: round 1 gives 0 1 2 1 0, round 2 gives 0 2 2 0 0, round 3 gives 2 2 2 0 0 and nothing moves then.
# Group 1 is left without points in round 2, with a middle of two points that it keeps.
WORKED = [begin(), point(7, 0), point(1, 1), point(3, 0), point(5, 7), point(7, 8)]
# The first two are equal: group 1 has no points in the first round.
EQUAL = [begin(), point(0), point(0), point(4)]


def some_points(many):
    return [begin()] + [point(10 * number) for number in range(many)]


class PartTest(unittest.TestCase):
    def check(self, points, k, rounds, expected_rounds, groups, middles):
        calls = [part(k, rounds)]
        calls += [group(number) for number in range(len(groups))]
        calls += [middle(number) for number in range(k)]
        expected = [[expected_rounds]] + [[number] for number in groups] + middles
        self.assertEqual(ask_behind(points, *calls), expected)

    def test_no_round_behind_the_first(self):
        self.check(WORKED, 3, 0, 1, [0, 1, 2, 1, 0], [told(1, 7, 0), told(1, 1, 1), told(1, 3, 0)])

    def test_one_round_behind_the_first(self):
        self.check(WORKED, 3, 1, 2, [0, 2, 2, 0, 0], [told(2, 14, 8), told(2, 6, 8), told(1, 3, 0)])

    def test_two_rounds_behind_the_first(self):
        self.check(WORKED, 3, 2, 3, [2, 2, 2, 0, 0], [told(3, 19, 15), told(2, 6, 8), told(2, 4, 1)])

    def test_the_end_is_no_round_but_has_its_middles(self):
        for rounds in (3, 4, 1000):
            with self.subTest(rounds=rounds):
                self.check(WORKED, 3, rounds, 3, [2, 2, 2, 0, 0],
                           [told(2, 12, 15), told(2, 6, 8), told(3, 11, 1)])

    def test_the_end_straight_behind_the_first_round(self):
        points = [begin(), point(0), point(10), point(1), point(9)]
        self.check(points, 2, 0, 1, [0, 1, 0, 1], [told(1, 0), told(1, 10)])
        self.check(points, 2, 1, 1, [0, 1, 0, 1], [told(2, 1), told(2, 19)])
        self.check(points, 2, 1000, 1, [0, 1, 0, 1], [told(2, 1), told(2, 19)])

    def test_of_several_nearest_middles_the_first(self):
        self.check([begin(), point(0), point(10), point(5)], 2, 0, 1, [0, 1, 0], [told(1, 0), told(1, 10)])
        self.check([begin(), point(10), point(0), point(5)], 2, 0, 1, [0, 1, 0], [told(1, 10), told(1, 0)])

    def test_a_tie_between_fractions(self):
        # Behind the first round the places are 3 by 2 and 18 by 4: 3 lies half-way and stays in the first.
        points = [begin(), point(0), point(6), point(3), point(4), point(4), point(4)]
        self.check(points, 2, 1000, 1, [0, 1, 0, 1, 1, 1], [told(2, 3), told(4, 18)])

    def test_equal_points_leave_a_group_without_points(self):
        self.check(EQUAL, 2, 0, 1, [0, 0, 0], [told(1, 0), told(1, 0)])
        self.check(EQUAL, 2, 1, 2, [1, 1, 0], [told(3, 4), told(1, 0)])
        self.check(EQUAL, 2, 2, 2, [1, 1, 0], [told(1, 4), told(2, 0)])

    def test_all_points_equal(self):
        points = [begin()] + [point(3, -3)] * 4
        self.check(points, 4, 1000, 1, [0, 0, 0, 0],
                   [told(4, 12, -12), told(1, 3, -3), told(1, 3, -3), told(1, 3, -3)])

    def test_every_number_counts(self):
        for place in range(8):
            far = [0] * 8
            far[place] = 10
            near = [0] * 8
            near[place] = 6
            with self.subTest(place=place):
                self.check([begin(), point(0), point(*far), point(*near)], 2, 0, 1, [0, 1, 1],
                           [told(1), told(1, *far)])

    def test_far_is_squared_before_it_is_summed(self):
        # 6 and 6 apart is 72, less than 9 alone, which is 81, though 12 is more than 9.
        points = [begin(), point(9, 0), point(6, 6), point(0, 0)]
        self.check(points, 2, 0, 1, [0, 1, 1], [told(1, 9), told(1, 6, 6)])

    def test_the_farthest_numbers(self):
        low = [-32768] * 8
        high = [32767] * 8
        points = [begin(), point(*low), point(*high), point(*low), point(*high), point()]
        self.check(points, 2, 1000, 1, [0, 1, 0, 1, 1],
                   [told(2, *[-65536] * 8), told(3, *[65534] * 8)])

    def test_one_group(self):
        self.check(some_points(3), 1, 1000, 1, [0, 0, 0], [told(3, 30)])
        self.check(some_points(3), 1, 0, 1, [0, 0, 0], [told(1, 0)])

    def test_as_many_groups_as_points(self):
        self.check(some_points(3), 3, 1000, 1, [0, 1, 2], [told(1, 0), told(1, 10), told(1, 20)])

    def test_sixteen_groups(self):
        points = some_points(17)
        self.check(points, 16, 0, 1, list(range(16)) + [15], [told(1, 10 * number) for number in range(16)])

    def test_parting_again_starts_anew(self):
        before = WORKED + [part(3, 1000), part(2, 0)]
        self.assertEqual(ask_behind(before, group(2), group(4), middle(1), middle(2), part(3, 0), middle(2)),
                         [[1], [0], told(1, 1, 1), [-1], [1], told(1, 3, 0)])


class PartRefusalTest(unittest.TestCase):
    def test_k_outside(self):
        for k in (LEAST, -1, 0, 17, 18, MOST):
            with self.subTest(k=k):
                self.assertEqual(ask_last(*some_points(20), part(k, 5)), [-1])

    def test_k_at_the_edges(self):
        for k in (1, 16):
            with self.subTest(k=k):
                self.assertEqual(ask_last(*some_points(16), part(k, 0)), [1])

    def test_k_above_how_many_points(self):
        for many in range(17):
            with self.subTest(many=many):
                self.assertEqual(ask_last(*some_points(many), part(many + 1, 0)), [-1])

    def test_k_equal_to_how_many_points(self):
        for many in range(1, 17):
            with self.subTest(many=many):
                self.assertEqual(ask_last(*some_points(many), part(many, 0)), [1])

    def test_rounds_outside(self):
        for rounds in (LEAST, -1, 1001, MOST):
            with self.subTest(rounds=rounds):
                self.assertEqual(ask_last(*some_points(3), part(2, rounds)), [-1])

    def test_rounds_at_the_edges(self):
        self.assertEqual(ask_behind(EQUAL, part(2, 0), part(2, 1000)), [[1], [2]])

    def test_both_outside(self):
        self.assertEqual(ask_last(*some_points(3), part(0, -1)), [-1])

    def test_a_refusal_leaves_it_not_parted(self):
        before = some_points(3) + [part(4, 0), part(2, 1001)]
        self.assertEqual(ask_behind(before, group(0), middle(0)), [[-4], [-4]])

    def test_a_refusal_leaves_it_parted(self):
        before = EQUAL + [part(2, 1)]
        calls = []
        for k, rounds in ((0, 0), (4, 0), (17, 0), (1, -1), (1, 1001)):
            calls += [part(k, rounds), group(0), group(2), middle(0), middle(1)]
        expected = [[-1], [1], [0], told(3, 4), told(1, 0)] * 5
        self.assertEqual(ask_behind(before, *calls), expected)


class GroupAndMiddleRefusalTest(unittest.TestCase):
    def test_not_parted(self):
        self.assertEqual(ask(begin(), group(0), middle(0)), [[0], [-4], [-4]])
        self.assertEqual(ask_behind(some_points(2), group(0), middle(0)), [[-4], [-4]])

    def test_not_parted_comes_before_what_there_is_not(self):
        for number in (LEAST, -1, 2, 16, MOST):
            with self.subTest(number=number):
                self.assertEqual(ask_behind(some_points(2), group(number), middle(number)), [[-4], [-4]])

    def test_a_point_that_there_is_not(self):
        before = some_points(3) + [part(2, 0)]
        for number in (LEAST, -3, -1, 3, 256, MOST):
            with self.subTest(number=number):
                self.assertEqual(ask_behind(before, group(number), group(2)), [[-1], [1]])

    def test_a_group_that_there_is_not(self):
        before = some_points(3) + [part(2, 0)]
        for number in (LEAST, -2, -1, 2, 3, 16, MOST):
            with self.subTest(number=number):
                self.assertEqual(ask_behind(before, middle(number), middle(1)), [[-1], told(1, 10)])

    def test_asking_changes_nothing(self):
        before = EQUAL + [part(2, 1)]
        self.assertEqual(ask_behind(before, middle(0), group(0), middle(0), group(0)),
                         [told(3, 4), [1], told(3, 4), [1]])
