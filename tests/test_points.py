"""Promises 1 and 2: begin and point."""

import unittest

from pointgroups.points import PointSet
from tests.lines import ask, ask_behind, begin, full, group, middle, part, point, told


class BeginTest(unittest.TestCase):
    def test_answers_0(self):
        self.assertEqual(ask(begin()), [[0]])
        self.assertEqual(ask(begin(), begin()), [[0], [0]])

    def test_there_are_no_points_at_first(self):
        self.assertEqual(ask(begin(), part(1, 0), point(3)), [[0], [-1], [0]])

    def test_again_takes_the_points_away(self):
        before = [begin(), point(1), point(2), begin()]
        self.assertEqual(ask_behind(before, part(1, 0), point(5), part(2, 0), part(1, 0), middle(0)),
                         [[-1], [0], [-1], [1], told(1, 5)])

    def test_again_is_not_parted(self):
        before = [begin(), point(1), part(1, 0), begin()]
        self.assertEqual(ask_behind(before, group(0), middle(0)), [[-4], [-4]])


class PointTest(unittest.TestCase):
    def test_numbers_go_up_from_0(self):
        self.assertEqual(ask(begin(), point(5), point(5), point(-1, 2)), [[0], [0], [1], [2]])

    def test_all_eight_numbers_are_kept_in_order(self):
        numbers = [-32768, 32767, 0, 1, -1, 300, -300, 7]
        self.assertEqual(ask(begin(), point(*numbers), part(1, 0), middle(0))[-1], [1] + numbers)

    def test_behind_part_it_is_not_parted(self):
        before = [begin(), point(1), point(2), part(2, 0), group(1), point(3)]
        self.assertEqual(ask_behind(before, group(1), middle(1), part(2, 0), group(2)),
                         [[-4], [-4], [1], [1]])

    def test_256_points_at_most(self):
        points = PointSet()
        for number in range(256):
            self.assertEqual(points.point(full(number)), [number])
        self.assertEqual(points.point(full(9)), [-2])
        self.assertEqual(points.part(1, 0), [1])
        self.assertEqual(points.group(255), [0])
        self.assertEqual(points.group(256), [-1])

    def test_a_refused_point_changes_nothing(self):
        points = PointSet()
        for number in range(256):
            points.point(full(number))
        points.part(1, 5)
        before = points.middle(0)
        self.assertEqual(points.point(full(9)), [-2])
        self.assertEqual(points.middle(0), before)
        self.assertEqual(before, told(256, 255 * 256 // 2))

    def test_behind_begin_there_is_room_again(self):
        points = PointSet()
        for number in range(256):
            points.point(full(number))
        self.assertEqual(points.begin(), [0])
        self.assertEqual(points.point(full(1)), [0])

    def test_what_is_handed_over_is_not_changed_or_kept(self):
        points = PointSet()
        numbers = full(4)
        points.point(numbers)
        self.assertEqual(numbers, full(4))
        numbers[0] = 9
        points.part(1, 0)
        self.assertEqual(points.middle(0), told(1, 4))
