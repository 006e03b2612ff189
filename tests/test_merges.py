"""Promises 9 and 10: merge and cut."""

import unittest

from pointgroups.points import PointSet
from tests.lines import (LEAST, MOST, ask, ask_behind, begin, cost, cut, full, group, merge, middle, on_a_row, part,
                         point)

FOUR = on_a_row(7, 0, 3, 1)


def all_merges(points, kind):
    many = len(points) - 1
    given = ask_behind(points, *[merge(kind, k) for k in range(many - 1)])
    for answer in given:
        if len(answer) != 5 or answer[0] != 0:
            raise ValueError(f"no merge is told: {answer}")
    return [tuple(answer[1:]) for answer in given]


class MergeTest(unittest.TestCase):
    def test_the_nearest_two(self):
        self.assertEqual(all_merges(FOUR, 0), [(1, 3, 1, 1), (1, 2, 4, 1), (0, 1, 16, 1)])

    def test_the_farthest_two(self):
        self.assertEqual(all_merges(FOUR, 1), [(1, 3, 1, 1), (1, 2, 9, 1), (0, 1, 49, 1)])

    def test_all_pairs(self):
        self.assertEqual(all_merges(FOUR, 2), [(1, 3, 1, 1), (1, 2, 13, 2), (0, 1, 101, 3)])

    def test_kinds_that_merge_other_groups(self):
        # Behind 0 with 4: of 9 the nearest is 25, the farthest 81, all pairs 106 by 2; 9 and 17 are 64 apart.
        points = on_a_row(0, 4, 9, 17)
        self.assertEqual(all_merges(points, 0), [(0, 1, 16, 1), (0, 2, 25, 1), (0, 3, 64, 1)])
        self.assertEqual(all_merges(points, 1), [(0, 1, 16, 1), (2, 3, 64, 1), (0, 2, 289, 1)])
        self.assertEqual(all_merges(points, 2), [(0, 1, 16, 1), (0, 2, 53, 1), (0, 3, 174, 1)])

    def test_two_groups_of_several_points(self):
        points = on_a_row(0, 10, 11, 1)
        self.assertEqual(all_merges(points, 0), [(0, 3, 1, 1), (1, 2, 1, 1), (0, 1, 81, 1)])
        self.assertEqual(all_merges(points, 1), [(0, 3, 1, 1), (1, 2, 1, 1), (0, 1, 121, 1)])
        # 100, 121, 81 and 100 are 402 by 4.
        self.assertEqual(all_merges(points, 2), [(0, 3, 1, 1), (1, 2, 1, 1), (0, 1, 201, 2)])

    def test_lowest_terms(self):
        self.assertEqual(all_merges(on_a_row(0, 2, 4), 2), [(0, 1, 4, 1), (0, 2, 10, 1)])
        # Of 2 to 0, 0 and 1: 4, 4 and 1 are 9 by 3.
        self.assertEqual(all_merges(on_a_row(0, 0, 1, 2), 2), [(0, 1, 0, 1), (0, 2, 1, 1), (0, 3, 3, 1)])

    def test_equal_points_are_0_by_1_apart(self):
        points = [begin()] + [point(-5, 5)] * 4
        for kind in (0, 1, 2):
            with self.subTest(kind=kind):
                self.assertEqual(all_merges(points, kind), [(0, 1, 0, 1), (0, 2, 0, 1), (0, 3, 0, 1)])

    def test_of_several_pairs_that_whose_first_group_comes_first(self):
        for kind in (0, 1, 2):
            with self.subTest(kind=kind):
                self.assertEqual(all_merges(on_a_row(0, 10, 11, 1), kind)[:2], [(0, 3, 1, 1), (1, 2, 1, 1)])
                self.assertEqual(all_merges(on_a_row(90, 0, 50, 51, 1), kind)[:2], [(1, 4, 1, 1), (2, 3, 1, 1)])

    def test_then_that_whose_second_does(self):
        for kind in (0, 1, 2):
            with self.subTest(kind=kind):
                self.assertEqual(all_merges(on_a_row(0, 1, -1), kind)[0], (0, 1, 1, 1))
                self.assertEqual(all_merges(on_a_row(0, -1, 1), kind)[0], (0, 1, 1, 1))
                self.assertEqual(all_merges(on_a_row(0, 9, 1, -1), kind)[0], (0, 2, 1, 1))

    def test_ties_all_along_a_row(self):
        points = on_a_row(0, 1, 2, 3)
        self.assertEqual(all_merges(points, 0), [(0, 1, 1, 1), (0, 2, 1, 1), (0, 3, 1, 1)])
        self.assertEqual(all_merges(points, 1), [(0, 1, 1, 1), (2, 3, 1, 1), (0, 2, 9, 1)])
        # Of 2 to 0 and 1: 5 by 2, so 2 and 3 go first; then 4, 9, 1 and 4 are 18 by 4.
        self.assertEqual(all_merges(points, 2), [(0, 1, 1, 1), (2, 3, 1, 1), (0, 2, 9, 2)])

    def test_a_tie_with_a_merged_group(self):
        # 0 with 2 is 20 by 2 from 4; 100 0 and 103 1 are 10 apart.
        points = [begin(), point(0), point(2), point(4), point(100), point(103, 1)]
        self.assertEqual(all_merges(points, 2)[:3], [(0, 1, 4, 1), (0, 2, 10, 1), (3, 4, 10, 1)])
        points = [begin(), point(100), point(103, 1), point(0), point(2), point(4)]
        self.assertEqual(all_merges(points, 2)[:3], [(2, 3, 4, 1), (0, 1, 10, 1), (2, 4, 10, 1)])

    def test_a_merged_group_goes_by_its_first_point(self):
        # Behind 1 with 4 that group is 4 from 2, as 0 is from 3: its first point is 1, so 0 comes before it.
        points = on_a_row(0, 50, 53, 2, 51)
        self.assertEqual(all_merges(points, 0)[:3], [(1, 4, 1, 1), (0, 3, 4, 1), (1, 2, 4, 1)])
        # And before 3, though it was made behind it.
        points = on_a_row(90, 50, 53, 2, 51, 0)
        self.assertEqual(all_merges(points, 0)[:3], [(1, 4, 1, 1), (1, 2, 4, 1), (3, 5, 4, 1)])

    def test_every_number_counts(self):
        for place in range(8):
            numbers = [0] * 8
            numbers[place] = -3
            with self.subTest(place=place):
                self.assertEqual(all_merges([begin(), point(), point(*numbers)], 0), [(0, 1, 9, 1)])

    def test_the_farthest_points(self):
        points = [begin(), point(*[-32768] * 8), point(*[32767] * 8), point(*[-32768] * 8), point(*[32767] * 8)]
        apart = 8 * 65535 ** 2
        for kind in (0, 1, 2):
            with self.subTest(kind=kind):
                self.assertEqual(all_merges(points, kind), [(0, 2, 0, 1), (1, 3, 0, 1), (0, 1, apart, 1)])

    def test_merges_are_told_in_any_order(self):
        self.assertEqual(ask_behind(FOUR, merge(0, 2), merge(1, 1), merge(0, 0), merge(0, 2)),
                         [[0, 0, 1, 16, 1], [0, 1, 2, 9, 1], [0, 1, 3, 1, 1], [0, 0, 1, 16, 1]])

    def test_as_many_points_as_there_may_be(self):
        points = PointSet()
        for number in range(256):
            points.point(full(number * (number + 1) // 2))
        for kind in (0, 1, 2):
            with self.subTest(kind=kind):
                self.assertEqual(points.merge(kind, 255), [-1])
                self.assertEqual(points.merge(kind, 0), [0, 0, 1, 1, 1])
        self.assertEqual(points.merge(0, 254), [0, 0, 255, 255 ** 2, 1])
        self.assertEqual(points.cut(0, 256, 255), [255])
        self.assertEqual(points.cut(0, 2, 255), [1])
        self.assertEqual(points.cut(0, 2, 254), [0])


class MergeRefusalTest(unittest.TestCase):
    def test_kinds(self):
        for kind in (LEAST, -1, 3, MOST):
            with self.subTest(kind=kind):
                self.assertEqual(ask_behind(FOUR, merge(kind, 0)), [[-1]])
        for kind in (0, 1, 2):
            with self.subTest(kind=kind):
                self.assertEqual(ask_behind(FOUR, merge(kind, 0)), [[0, 1, 3, 1, 1]])

    def test_where_there_is_no_kth(self):
        for kind in (0, 1, 2):
            for k in (LEAST, -2, -1, 3, 4, 255, MOST):
                with self.subTest(kind=kind, k=k):
                    self.assertEqual(ask_behind(FOUR, merge(kind, k)), [[-1]])

    def test_with_no_point_and_one_and_two(self):
        for kind in (0, 1, 2):
            calls = [merge(kind, k) for k in (-1, 0, 1)]
            with self.subTest(kind=kind):
                self.assertEqual(ask(begin(), *calls), [[0], [-1], [-1], [-1]])
                self.assertEqual(ask_behind(on_a_row(5), *calls), [[-1], [-1], [-1]])
                self.assertEqual(ask_behind(on_a_row(5, 8), *calls), [[-1], [0, 0, 1, 9, 1], [-1]])

    def test_both_outside(self):
        self.assertEqual(ask_behind(FOUR, merge(3, 3), merge(-1, -1)), [[-1], [-1]])

    def test_begin_takes_the_points_away(self):
        self.assertEqual(ask_behind(FOUR, begin(), merge(0, 0), point(1), point(3), merge(0, 0)),
                         [[0], [-1], [0], [1], [0, 0, 1, 4, 1]])


class CutTest(unittest.TestCase):
    def check(self, points, kind, groups, expected):
        calls = [cut(kind, groups, number) for number in range(len(expected))]
        self.assertEqual(ask_behind(points, *calls), [[number] for number in expected])

    def test_each_number_of_groups(self):
        for kind in (0, 1, 2):
            with self.subTest(kind=kind):
                self.check(FOUR, kind, 4, [0, 1, 2, 3])
                self.check(FOUR, kind, 3, [0, 1, 2, 1])
                self.check(FOUR, kind, 2, [0, 1, 1, 1])
                self.check(FOUR, kind, 1, [0, 0, 0, 0])

    def test_kinds_that_merge_other_groups(self):
        points = on_a_row(0, 4, 9, 17)
        self.check(points, 0, 2, [0, 0, 0, 1])
        self.check(points, 1, 2, [0, 0, 1, 1])
        self.check(points, 2, 2, [0, 0, 0, 1])
        self.check(on_a_row(0, 4, 9, 15), 2, 2, [0, 0, 1, 1])

    def test_numbers_are_in_order_by_first_points(self):
        points = on_a_row(30, 0, 60, 31, 1, 90, 61)
        for kind in (0, 1, 2):
            with self.subTest(kind=kind):
                self.check(points, kind, 6, [0, 1, 2, 0, 3, 4, 5])
                self.check(points, kind, 5, [0, 1, 2, 0, 1, 3, 4])
                self.check(points, kind, 4, [0, 1, 2, 0, 1, 3, 2])

    def test_a_point_merged_twice(self):
        # 3 goes with 4, then with 1, whose group then goes with 0.
        self.check(on_a_row(0, 9, 90, 13, 14), 0, 4, [0, 1, 2, 3, 3])
        self.check(on_a_row(0, 9, 90, 13, 14), 0, 3, [0, 1, 2, 1, 1])
        self.check(on_a_row(0, 9, 90, 13, 14), 0, 2, [0, 0, 1, 0, 0])

    def test_equal_points(self):
        points = [begin()] + [point(-5, 5)] * 4
        for kind in (0, 1, 2):
            with self.subTest(kind=kind):
                self.check(points, kind, 3, [0, 0, 1, 2])
                self.check(points, kind, 2, [0, 0, 0, 1])

    def test_one_point(self):
        for kind in (0, 1, 2):
            self.check(on_a_row(5), kind, 1, [0])


class CutRefusalTest(unittest.TestCase):
    def test_kinds(self):
        for kind in (LEAST, -1, 3, MOST):
            with self.subTest(kind=kind):
                self.assertEqual(ask_behind(FOUR, cut(kind, 2, 0)), [[-1]])

    def test_groups_outside(self):
        for kind in (0, 1, 2):
            for groups in (LEAST, -1, 0, 5, 6, 256, MOST):
                with self.subTest(kind=kind, groups=groups):
                    self.assertEqual(ask_behind(FOUR, cut(kind, groups, 0)), [[-1]])

    def test_a_point_that_there_is_not(self):
        for kind in (0, 1, 2):
            for number in (LEAST, -4, -1, 4, 256, MOST):
                for groups in (1, 4):
                    with self.subTest(kind=kind, number=number, groups=groups):
                        self.assertEqual(ask_behind(FOUR, cut(kind, groups, number)), [[-1]])

    def test_no_point_at_all(self):
        for groups in (-1, 0, 1):
            self.assertEqual(ask(begin(), cut(0, groups, 0)), [[0], [-1]])

    def test_all_outside(self):
        self.assertEqual(ask_behind(FOUR, cut(3, 5, 4), cut(-1, 0, -1)), [[-1], [-1]])

    def test_begin_takes_the_points_away(self):
        self.assertEqual(ask_behind(FOUR, begin(), cut(0, 1, 0), point(1), cut(0, 2, 0), cut(0, 1, 0)),
                         [[0], [-1], [0], [-1], [0]])

    def test_a_refusal_changes_nothing(self):
        before = FOUR + [part(2, 1)]
        asked = [cost(), group(2), middle(1), merge(2, 2), cut(2, 2, 3)]
        refused = [merge(3, 0), merge(-1, 0), merge(0, -1), merge(0, 3),
                   cut(3, 1, 0), cut(-1, 1, 0), cut(0, 0, 0), cut(0, 5, 0), cut(0, 1, -1), cut(0, 1, 4)]
        given = ask_behind(before, *asked, *refused, *asked)
        self.assertEqual(given[5:15], [[-1]] * 10)
        self.assertEqual(given[:5], given[15:])
        self.assertEqual(given[3:5], [[0, 0, 1, 101, 3], [1]])
