"""Promise 6: cost."""

import unittest

from tests.lines import (LEAST, MOST, ask, ask_behind, ask_last, begin, cost, group, middle, on_a_row, part, point,
                         told, told_cost)
from tests.test_parting import EQUAL, WORKED


class CostTest(unittest.TestCase):
    def check(self, points, k, rounds, divided, divisor):
        self.assertEqual(ask_last(*points, part(k, rounds), cost()), told_cost(divided, divisor))

    def test_no_round_behind_the_first(self):
        # 52 from 5 7 to 1 1, and 64 from 7 8 to 7 0.
        self.check(WORKED, 3, 0, 116, 1)

    def test_one_round_behind_the_first(self):
        # Middles 7 4 and 3 0: 16, 5, 0, 13 and 16.
        self.check(WORKED, 3, 1, 50, 1)

    def test_rounds_ran_out_and_middles_are_of_other_points(self):
        # Middles 19 by 3, 5 and 2, 1 by 2: 111 by 4 and 137 by 9.
        self.check(WORKED, 3, 2, 1547, 36)
        self.check(EQUAL, 2, 1, 64, 9)

    def test_at_the_end_with_a_group_that_stays_without_points(self):
        # Middles 6, 15 by 2 and 11 by 3, 1 by 3: 5 by 2 and 174 by 9.
        for rounds in (3, 1000):
            with self.subTest(rounds=rounds):
                self.check(WORKED, 3, rounds, 131, 6)

    def test_a_group_without_points_costs_nothing(self):
        # Group 1 keeps the middle 2, to which no point goes.
        self.check(on_a_row(2, 2, 4), 2, 0, 4, 1)
        self.check([begin()] + [point(3, -3)] * 3 + [point(3, 0)], 3, 0, 9, 1)

    def test_nothing_is_0_by_1(self):
        self.check(EQUAL, 2, 2, 0, 1)
        self.check(on_a_row(5), 1, 1000, 0, 1)
        self.check([begin()] + [point(3, -3)] * 4, 1, 1000, 0, 1)
        self.check(on_a_row(-4, 8, 1), 3, 5, 0, 1)

    def test_lowest_terms(self):
        # Middle 4 by 3: 16 by 9, 16 by 9 and 64 by 9 are 96 by 9.
        self.check(on_a_row(0, 0, 4), 1, 1, 32, 3)
        # Middle 6 by 4: 9, 1, 1 and 9, by 4.
        self.check(on_a_row(0, 1, 2, 3), 1, 1, 5, 1)
        # Middles 1 by 2 and 21 by 2: 1 by 2 each.
        self.check(on_a_row(0, 10, 1, 11), 2, 9, 1, 1)

    def test_thirty_two_bytes_each_the_lowest_first(self):
        given = ask_last(*WORKED, part(3, 2), cost())
        self.assertEqual(given, [0] + [11, 6] + [0] * 30 + [36] + [0] * 31)
        given = ask_last(*WORKED, part(3, 0), cost())
        self.assertEqual(given, [0] + [116] + [0] * 31 + [1] + [0] * 31)

    def test_256_and_255_in_bytes(self):
        self.assertEqual(ask_last(*on_a_row(0, 16), part(1, 0), cost()), [0, 0, 1] + [0] * 30 + [1] + [0] * 31)
        self.assertEqual(ask_last(begin(), point(), point(15, 5, 2, 1), part(1, 0), cost()),
                         [0, 255] + [0] * 31 + [1] + [0] * 31)

    def test_the_farthest_points(self):
        points = [begin(), point(*[-32768] * 8)] + [point(*[32767] * 8)] * 57
        self.check(points, 1, 0, 57 * 8 * 65535 ** 2, 1)

    def test_what_is_divided_by_takes_several_bytes(self):
        # Groups of 2, 3, 5, 7, 11 and 13 points: all places of a group are the same but its first, which is 1 off.
        # So a group of n costs (n - 1) by n.
        sizes = (2, 3, 5, 7, 11, 13)
        places = [1000 * number + 1 for number in range(6)]
        for number, size in enumerate(sizes):
            places += [1000 * number] * (size - 1)
        # 6 - 1/2 - 1/3 - 1/5 - 1/7 - 1/11 - 1/13, by 30030.
        divided = 6 * 30030 - 15015 - 10010 - 6006 - 4290 - 2730 - 2310
        self.check(on_a_row(*places), 6, 1000, divided, 30030)
        self.assertEqual(ask_last(*on_a_row(*places), part(6, 1000), cost())[33:36], [30030 % 256, 30030 // 256, 0])

    def test_every_number_counts(self):
        for place in range(8):
            numbers = [0] * 8
            numbers[place] = -7
            with self.subTest(place=place):
                self.check([begin(), point(), point(*numbers)], 1, 0, 49, 1)

    def test_asking_changes_nothing(self):
        before = EQUAL + [part(2, 1)]
        self.assertEqual(ask_behind(before, cost(), cost(), group(0), middle(0), cost()),
                         [told_cost(64, 9), told_cost(64, 9), [1], told(3, 4), told_cost(64, 9)])


class CostRefusalTest(unittest.TestCase):
    def test_not_parted(self):
        self.assertEqual(ask(begin(), cost()), [[0], [-4]])
        self.assertEqual(ask_behind(EQUAL, cost(), group(0), part(2, 0), cost()), [[-4], [-4], [1], told_cost(16, 1)])

    def test_behind_a_point_it_is_not_parted(self):
        before = EQUAL + [part(2, 0)]
        self.assertEqual(ask_behind(before, cost(), point(1), cost(), part(1, 0), cost()),
                         [told_cost(16, 1), [3], [-4], [1], told_cost(17, 1)])

    def test_behind_begin_it_is_not_parted(self):
        self.assertEqual(ask_behind(EQUAL + [part(2, 0)], begin(), cost()), [[0], [-4]])

    def test_behind_a_refused_part_it_is_as_it_was(self):
        for k, rounds in ((0, 0), (4, 0), (LEAST, 1), (MOST, 1), (1, -1), (1, 1001), (1, LEAST), (1, MOST)):
            with self.subTest(k=k, rounds=rounds):
                self.assertEqual(ask_behind(EQUAL, part(k, rounds), cost()), [[-1], [-4]])
                self.assertEqual(ask_behind(EQUAL + [part(2, 1)], part(k, rounds), cost()), [[-1], told_cost(64, 9)])
