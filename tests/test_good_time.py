"""Lines of 60 calls with as many points as fit are answered in good time."""

import time
import unittest

from pointgroups.groups import answers
from tests.lines import (MOST_CALLS, MOST_RADIUS, ask, begin, cost, cut, dense, denses, group, merge, middle, part,
                         point)
from tests.spread import Numbers

# A line takes a small part of a second: what is over this has gone wrong, however slow the machine is.
MOST_SECONDS = 10
# All places alike, many ties, few ties on a row, and none.
SPREADS = ((0, 1, 1), (-3, 7, 1), (-32768, 65536, 1), (-32768, 65536, 8))


class GoodTimeTest(unittest.TestCase):
    def check(self, points, calls):
        line = [begin()] + [point(*one) for one in points] + calls
        self.assertEqual(len(line), MOST_CALLS)
        started = time.perf_counter()
        given = ask(*line)
        self.assertLess(time.perf_counter() - started, MOST_SECONDS)
        for answer in given:
            self.assertGreaterEqual(answer[0], 0)

    def check_many(self, many, calls):
        for least, spread, width in SPREADS:
            with self.subTest(many=many, least=least, spread=spread, width=width):
                self.check(Numbers(many).points(many, least, spread, width), calls)

    def test_one_call_behind_58_points(self):
        for call in (part(16, 1000), dense(MOST_RADIUS, 58, 57), dense(0, 1, 57), denses(10 ** 9, 2),
                     merge(0, 56), merge(1, 56), merge(2, 56), cut(0, 1, 57), cut(1, 1, 57), cut(2, 1, 57)):
            self.check_many(58, [call])

    def test_cost_behind_57_points(self):
        self.check_many(57, [part(16, 1000), cost()])
        self.check_many(57, [part(16, 0), cost()])

    def test_the_same_call_again_and_again(self):
        for many in (30, 40, 50):
            for call in (part(16, 1000), dense(10 ** 9, 2, 0), denses(MOST_RADIUS, 1),
                         merge(0, many - 2), merge(1, many - 2), merge(2, many - 2), cut(2, 1, many - 1)):
                self.check_many(many, [call] * (MOST_CALLS - 1 - many))

    def test_all_calls_behind_48_points(self):
        self.check_many(48, [part(16, 1000), group(47), middle(15), cost(), dense(10 ** 9, 3, 47), denses(10 ** 9, 3),
                             merge(0, 46), merge(1, 46), merge(2, 46), cut(2, 1, 47), cost()])

    def test_points_alone(self):
        self.check_many(59, [])

    def test_begin_alone(self):
        started = time.perf_counter()
        self.assertEqual(answers([0] * MOST_CALLS), [1, 0] * MOST_CALLS)
        self.assertLess(time.perf_counter() - started, MOST_SECONDS)

    def test_a_chain_of_58_points(self):
        # Each point hangs on the one before it alone.
        self.check([[number] for number in range(58)], [dense(1, 2, 57)])
        self.check([[57 - number] for number in range(58)], [denses(1, 2)])
