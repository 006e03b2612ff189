"""Promises 7 and 8: dense and denses."""

import unittest

from pointgroups.points import PointSet
from tests.lines import (LEAST, MOST, MOST_RADIUS, NO_GROUP, ask, ask_behind, begin, cost, dense, denses, full, group,
                         middle, on_a_row, part, point)


class DenseTest(unittest.TestCase):
    def check(self, points, radius, least, groups, how_many):
        calls = [dense(radius, least, number) for number in range(len(groups))] + [denses(radius, least)]
        self.assertEqual(ask_behind(points, *calls), [[number] for number in groups] + [[how_many]])

    def test_several_groups(self):
        points = on_a_row(0, 1, 2, 10, 11, 12, 20)
        self.check(points, 1, 2, [0, 0, 0, 1, 1, 1, NO_GROUP], 2)
        self.check(points, 1, 1, [0, 0, 0, 1, 1, 1, 2], 3)

    def test_one_group(self):
        self.check(on_a_row(0, 1, 2, 10, 11, 12, 20), 64, 3, [0] * 7, 1)

    def test_no_group(self):
        self.check(on_a_row(0, 1, 2, 10, 11, 12, 20), 1, 4, [NO_GROUP] * 7, 0)
        self.check([begin()], 5, 1, [], 0)

    def test_numbered_by_first_points(self):
        self.check(on_a_row(20, 0, 21, 10, 1, 11), 1, 2, [0, 1, 0, 2, 1, 2], 3)
        self.check(on_a_row(50, 10, 0, 1, 11), 1, 2, [NO_GROUP, 0, 1, 1, 0], 2)

    def test_a_chain_of_dense_points(self):
        self.check(on_a_row(*range(10)), 1, 2, [0] * 10, 1)
        self.check(on_a_row(4, 0, 2, 6, 8, 1, 3, 9, 5, 7), 1, 2, [0] * 10, 1)

    def test_a_chain_that_is_broken(self):
        self.check(on_a_row(0, 1, 2, 3, 5, 6, 7), 1, 2, [0, 0, 0, 0, 1, 1, 1], 2)

    def test_the_ends_of_a_chain_are_not_dense_but_belong(self):
        self.check(on_a_row(0, 1, 2, 3, 4), 1, 3, [0, 0, 0, 0, 0], 1)

    def test_a_point_that_is_not_dense_makes_no_chain(self):
        # 2 has three near, itself among them: too few for 4, and so both sides stay apart.
        self.check(on_a_row(0, 0, 0, 1, 2, 3, 4, 4, 4), 1, 4, [0, 0, 0, 0, 0, 1, 1, 1, 1], 2)
        self.check(on_a_row(0, 0, 0, 1, 2, 3, 4, 4, 4), 1, 3, [0] * 9, 1)

    def test_near_to_two_groups_it_belongs_to_the_first(self):
        self.check(on_a_row(3, 4, 4, 4, 2, 0, 0, 0, 1), 1, 4, [0, 0, 0, 0, 0, 1, 1, 1, 1], 2)
        self.check(on_a_row(2, 3, 4, 4, 4, 0, 0, 0, 1), 1, 4, [0, 0, 0, 0, 0, 1, 1, 1, 1], 2)

    def test_the_first_group_is_not_the_nearest(self):
        # Of 10 the dense 0 is 100 away and the dense 17 is 49 away; 10 itself has three near.
        places = [0] + [-8] * 4 + [10, 17] + [25] * 4
        self.check(on_a_row(*places), 100, 4, [0] * 6 + [1] * 5, 2)

    def test_a_point_that_is_not_dense_does_not_number_its_group(self):
        # Point 0 belongs to what hangs together from point 5 on, which comes behind that from point 1 on.
        self.check(on_a_row(2, 50, 50, 50, 50, 0, 0, 0, 1), 1, 4, [1, 0, 0, 0, 0, 1, 1, 1, 1], 2)

    def test_near_to_points_that_are_not_dense_alone_it_has_no_group(self):
        # Of least 4 the point at 1 alone is dense; 3 is near to 2, which belongs but isn't dense.
        self.check(on_a_row(0, 0, 1, 2, 3), 1, 4, [0, 0, 0, 0, NO_GROUP], 1)

    def test_a_distance_equal_to_the_radius(self):
        points = [begin(), point(0, 0), point(3, 4)]
        self.check(points, 24, 2, [NO_GROUP, NO_GROUP], 0)
        self.check(points, 25, 2, [0, 0], 1)
        self.check(points, 24, 1, [0, 1], 2)
        self.check(points, 25, 1, [0, 0], 1)

    def test_a_point_that_is_not_dense_at_the_radius(self):
        self.check(on_a_row(0, 0, 3), 8, 2, [0, 0, NO_GROUP], 1)
        self.check(on_a_row(0, 0, 3, -3), 9, 4, [0, 0, 0, 0], 1)
        self.check(on_a_row(0, 0, 3, -3), 8, 2, [0, 0, NO_GROUP, NO_GROUP], 1)

    def test_a_radius_of_0(self):
        points = on_a_row(5, 7, 5, 8)
        self.check(points, 0, 1, [0, 1, 0, 2], 3)
        self.check(points, 0, 2, [0, NO_GROUP, 0, NO_GROUP], 1)
        self.check(points, 0, 3, [NO_GROUP] * 4, 0)

    def test_the_greatest_radius(self):
        points = [begin(), point(*[-32768] * 8), point(*[32767] * 8), point()]
        self.check(points, MOST_RADIUS, 3, [0, 0, 0], 1)
        self.check(points, MOST_RADIUS, 4, [NO_GROUP] * 3, 0)

    def test_the_farthest_points_at_their_distance(self):
        points = [begin(), point(*[-32768] * 8), point(*[32767] * 8)]
        apart = 8 * 65535 ** 2
        self.check(points, apart - 1, 1, [0, 1], 2)
        self.check(points, apart, 1, [0, 0], 1)

    def test_equal_points(self):
        points = [begin()] + [point(3, -3)] * 4
        for radius in (0, 1, MOST_RADIUS):
            with self.subTest(radius=radius):
                self.check(points, radius, 4, [0] * 4, 1)
                self.check(points, radius, 5, [NO_GROUP] * 4, 0)

    def test_a_point_by_itself(self):
        self.check(on_a_row(9), 0, 1, [0], 1)
        self.check(on_a_row(9), MOST_RADIUS, 2, [NO_GROUP], 0)

    def test_every_number_counts(self):
        for place in range(8):
            numbers = [0] * 8
            numbers[place] = -2
            with self.subTest(place=place):
                self.check([begin(), point(), point(*numbers)], 3, 1, [0, 1], 2)
                self.check([begin(), point(), point(*numbers)], 4, 1, [0, 0], 1)

    def test_as_many_points_as_least_may_be(self):
        points = PointSet()
        for number in range(255):
            points.point(full(number))
        self.assertEqual(points.denses(MOST_RADIUS, 256), [0])
        self.assertEqual(points.dense(MOST_RADIUS, 256, 254), [NO_GROUP])
        points.point(full(255))
        self.assertEqual(points.denses(MOST_RADIUS, 256), [1])
        self.assertEqual(points.dense(MOST_RADIUS, 256, 255), [0])
        # A chain as long as there may be points.
        self.assertEqual(points.denses(1, 2), [1])
        self.assertEqual(points.dense(1, 2, 255), [0])
        self.assertEqual(points.denses(0, 1), [256])
        self.assertEqual(points.dense(0, 1, 255), [255])


class DenseRefusalTest(unittest.TestCase):
    def test_least_outside(self):
        for least in (LEAST, -1, 0, 257, MOST):
            with self.subTest(least=least):
                self.assertEqual(ask_behind(on_a_row(0, 1), dense(1, least, 0), denses(1, least)), [[-1], [-1]])
                self.assertEqual(ask(begin(), denses(1, least)), [[0], [-1]])

    def test_least_at_the_edges(self):
        self.assertEqual(ask_behind(on_a_row(0, 1), dense(1, 1, 0), denses(1, 1), dense(1, 256, 0), denses(1, 256)),
                         [[0], [1], [NO_GROUP], [0]])

    def test_a_point_that_there_is_not(self):
        for number in (LEAST, -2, -1, 2, 256, MOST):
            with self.subTest(number=number):
                self.assertEqual(ask_behind(on_a_row(0, 1), dense(1, 1, number), dense(0, 1, 1)), [[-1], [1]])

    def test_no_point_at_all(self):
        for number in (-1, 0, 1):
            with self.subTest(number=number):
                self.assertEqual(ask(begin(), dense(1, 1, number)), [[0], [-1]])

    def test_both_outside(self):
        self.assertEqual(ask_behind(on_a_row(0, 1), dense(0, 0, 2)), [[-1]])

    def test_begin_takes_the_points_away(self):
        self.assertEqual(ask_behind(on_a_row(0, 5), denses(0, 1), begin(), denses(0, 1), dense(0, 1, 0), point(3),
                                    denses(0, 1), dense(0, 1, 0)),
                         [[2], [0], [0], [-1], [0], [1], [0]])

    def test_a_refusal_changes_nothing(self):
        before = on_a_row(0, 4, 9) + [part(2, 0)]
        asked = [cost(), group(2), middle(1), denses(16, 2), dense(16, 2, 2)]
        refused = [dense(0, 0, 0), dense(0, 257, 0), dense(0, 1, -1), dense(0, 1, 3), denses(0, 0), denses(0, 257)]
        given = ask_behind(before, *asked, *refused, *asked)
        self.assertEqual(given[5:11], [[-1]] * 6)
        self.assertEqual(given[:5], given[11:])
        self.assertEqual(given[1:5:2], [[1], [1]])
