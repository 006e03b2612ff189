"""How calls are handed in and what is given back."""

import unittest

from pointgroups.groups import UnknownCall, answers
from tests.lines import MOST_RADIUS, begin, cost, cut, dense, denses, group, merge, middle, part, point

LINE = (begin() + point(0, 0) + point(10) + point(4) + part(2, 5) + group(2) + group(3)
        + middle(0) + middle(2) + cost() + point(1) + middle(0) + cost()
        + dense(16, 2, 2) + dense(0, 2, 2) + dense(0, 0, 2) + denses(MOST_RADIUS, 4) + denses(1, 257)
        + merge(0, 0) + merge(2, 2) + merge(3, 0) + cut(0, 2, 1) + cut(0, 5, 1))
# Cost: the middle 2 is 4 from 0 and from 4. The last merge: 10 to 0, 4 and 1 is 100, 36 and 81, 217 by 3.
ANSWER = ([1, 0, 1, 0, 1, 1, 1, 2, 1, 1, 1, 0, 1, -1]
          + [9, 2, 4, 0, 0, 0, 0, 0, 0, 0, 1, -1]
          + [65, 0, 8] + [0] * 31 + [1] + [0] * 31
          + [1, 3, 1, -4, 1, -4]
          + [1, 0, 1, 65535, 1, -1, 1, 1, 1, -1]
          + [5, 0, 0, 3, 1, 1, 5, 0, 0, 1, 217, 3, 1, -1, 1, 1, 1, -1])


class OnlyRead(list):
    """A list that fails where it is changed, even for a while."""

    def changed(self, *handed, **named):
        raise AssertionError("what is handed in was changed")

    append = extend = insert = pop = remove = clear = sort = reverse = changed
    __setitem__ = __delitem__ = __iadd__ = __imul__ = changed


class InterfaceTest(unittest.TestCase):
    def test_no_calls_no_answers(self):
        self.assertEqual(answers([]), [])

    def test_a_count_stands_before_each_answer(self):
        self.assertEqual(answers(LINE), ANSWER)

    def test_what_is_handed_in_stays_as_it_was(self):
        calls = list(LINE)
        answers(calls)
        self.assertEqual(calls, LINE)

    def test_two_times_one_behind_another_answer_alike(self):
        calls = list(LINE)
        self.assertEqual(answers(calls), answers(calls))
        for behind in (cost(), dense(0, 1, 0), denses(0, 1), merge(0, 0), cut(0, 1, 0)):
            calls = begin() + point(3) + point(1, 2) + part(1, 1) + behind
            with self.subTest(behind=behind):
                first = answers(calls)
                self.assertEqual(answers(calls), first)
                self.assertEqual(calls, begin() + point(3) + point(1, 2) + part(1, 1) + behind)

    def test_nothing_is_kept_from_one_time_to_the_next(self):
        self.assertEqual(answers(list(LINE)), ANSWER)
        self.assertEqual(answers(begin() + cost() + denses(0, 1) + dense(0, 1, 0) + merge(0, 0) + cut(0, 1, 0)),
                         [1, 0, 1, -4, 1, 0, 1, -1, 1, -1, 1, -1])
        answers(begin() + point(7) + part(1, 0))
        self.assertEqual(answers(list(LINE)), ANSWER)
        self.assertEqual(answers(begin() + group(0) + part(1, 0)), [1, 0, 1, -4, 1, -1])

    def test_what_is_handed_in_is_not_changed_for_a_while_either(self):
        self.assertEqual(answers(OnlyRead(LINE)), ANSWER)

    def test_what_is_given_back_is_new_each_time(self):
        first = answers(list(LINE))
        first.append(99)
        first[0] = 99
        self.assertEqual(answers(list(LINE)), ANSWER)

    def test_answers_are_a_list_of_whole_numbers(self):
        given = answers(LINE)
        self.assertIs(type(given), list)
        self.assertEqual({type(number) for number in given}, {int})

    def test_sixty_calls(self):
        calls = begin()
        for number in range(59):
            calls += point(number, -number)
        expected = [1, 0]
        for number in range(59):
            expected += [1, number]
        self.assertEqual(answers(calls), expected)

    def test_a_number_that_is_no_call_fails(self):
        for number in (-1, 10):
            with self.subTest(number=number), self.assertRaises(UnknownCall):
                answers(begin() + [number])
