"""Promises 7 to 10 do not ask whether the points are parted, and leave that as it was."""

import unittest

from tests.lines import (NO_GROUP, ask_behind, begin, cost, cut, dense, denses, group, merge, middle, on_a_row, part,
                         point)
from tests.spread import Numbers

PLACES = on_a_row(0, 4, 9, 17, 4)
PARTED = [cost(), group(0), group(3), group(4), middle(0), middle(1)]
ASKED = [dense(16, 2, 2), dense(25, 3, 2), dense(0, 0, 0), dense(0, 1, 5), denses(16, 2), denses(0, 257),
         merge(0, 2), merge(1, 2), merge(2, 2), merge(2, 4), merge(3, 0),
         cut(0, 2, 3), cut(1, 2, 3), cut(2, 2, 3), cut(0, 6, 0), cut(0, 1, 5)]
# Behind 4 with 4 (points 1 and 4): kind 0 merges 0 (16), then 9 (25); kind 1 the same 0, then 9 with 17;
# kind 2 merges 0 (32 by 2), then 9 (25, 25 and 81 by 3).
# At 16 the point 9 is near to itself alone, at 25 to both 4s too.
TOLD = [[NO_GROUP], [0], [-1], [-1], [1], [-1],
        [0, 0, 2, 25, 1], [0, 2, 3, 64, 1], [0, 0, 2, 131, 3], [-1], [-1],
        [1], [1], [1], [-1], [-1]]


class PartedOrNotTest(unittest.TestCase):
    def test_not_parted(self):
        self.assertEqual(ask_behind(PLACES, *ASKED), TOLD)

    def test_not_parted_stays_so(self):
        for call, answer in zip(ASKED, TOLD):
            with self.subTest(call=call):
                self.assertEqual(ask_behind(PLACES, call, cost(), group(0), middle(0)), [answer, [-4], [-4], [-4]])

    def test_parted(self):
        for k in range(1, 6):
            for rounds in (0, 1, 1000):
                with self.subTest(k=k, rounds=rounds):
                    self.assertEqual(ask_behind(PLACES + [part(k, rounds)], *ASKED), TOLD)

    def test_parted_stays_so(self):
        for rounds in (0, 1, 1000):
            before = PLACES + [part(2, rounds)]
            parted = ask_behind(before, *PARTED)
            self.assertEqual([answer[0] < 0 for answer in parted], [False] * 6)
            for call, answer in zip(ASKED, TOLD):
                with self.subTest(rounds=rounds, call=call):
                    self.assertEqual(ask_behind(before, call, *PARTED), [answer] + parted)

    def test_parting_is_the_same_behind_them(self):
        parting = [part(3, 1)] + PARTED
        expected = ask_behind(PLACES, *parting)
        self.assertEqual(ask_behind(PLACES, *ASKED, *parting)[len(ASKED):], expected)

    def test_behind_a_point_more_they_know_of_it(self):
        before = on_a_row(0, 9) + [part(2, 0), denses(1, 2), merge(0, 0), cut(0, 1, 1)]
        self.assertEqual(ask_behind(before, point(1), denses(1, 2), dense(1, 2, 2), merge(0, 0), cut(0, 2, 2), cost()),
                         [[2], [1], [0], [0, 0, 2, 1, 1], [0], [-4]])

    def test_many_points(self):
        for seed in range(20):
            before = [begin()] + [point(*one) for one in Numbers(seed).points(20, -4, 9, 2)]
            calls = [dense(4, 4, seed), denses(4, 4)]
            for kind in (0, 1, 2):
                calls += [merge(kind, 9), merge(kind, 18), cut(kind, 5, seed), cut(kind, 2, 19)]
            with self.subTest(seed=seed):
                given = ask_behind(before, *calls)
                self.assertEqual(ask_behind(before + [part(4, 2)], *calls), given)
