"""How calls are handed in and what is given back."""

import unittest

from pointgroups.groups import UnknownCall, answers
from tests.lines import begin, group, middle, part, point

LINE = (begin() + point(0, 0) + point(10) + point(4) + part(2, 5) + group(2) + group(3)
        + middle(0) + middle(2) + point(1) + middle(0))
ANSWER = [1, 0, 1, 0, 1, 1, 1, 2, 1, 1, 1, 0, 1, -1,
          9, 2, 4, 0, 0, 0, 0, 0, 0, 0, 1, -1, 1, 3, 1, -4]


class InterfaceTest(unittest.TestCase):
    def test_no_calls_no_answers(self):
        self.assertEqual(answers([]), [])

    def test_a_count_stands_before_each_answer(self):
        self.assertEqual(answers(LINE), ANSWER)

    def test_what_is_handed_in_stays_as_it_was(self):
        calls = list(LINE)
        answers(calls)
        self.assertEqual(calls, LINE)

    def test_nothing_is_kept_from_one_time_to_the_next(self):
        self.assertEqual(answers(list(LINE)), ANSWER)
        answers(begin() + point(7) + part(1, 0))
        self.assertEqual(answers(list(LINE)), ANSWER)
        self.assertEqual(answers(begin() + group(0) + part(1, 0)), [1, 0, 1, -4, 1, -1])

    def test_what_is_given_back_is_new_each_time(self):
        first = answers(list(LINE))
        first.append(99)
        first[0] = 99
        self.assertEqual(answers(list(LINE)), ANSWER)

    def test_answers_are_a_list_of_whole_numbers(self):
        given = answers(LINE)
        self.assertIs(type(given), list)
        self.assertEqual({type(number) for number in given}, {int})

    def test_sixty_calls(self):
        calls = begin()
        for number in range(59):
            calls += point(number, -number)
        expected = [1, 0]
        for number in range(59):
            expected += [1, number]
        self.assertEqual(answers(calls), expected)

    def test_a_number_that_is_no_call_fails(self):
        for number in (-1, 10):
            with self.subTest(number=number), self.assertRaises(UnknownCall):
                answers(begin() + [number])
