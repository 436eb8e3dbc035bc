"""The interface: how calls stand in the list, how answers are given back, and that nothing is kept."""

import unittest

from calling import (
    ENDS, HIDES, LEFTS, PAIRS, RELATIONS, SAME, ask, ask_last, begin, ifspeed, level, met, ratio, rule, ruleis, speed,
    split, steady, unrule, weight)
from samelevels.mixtures import answers

# Numbers such as 0, 1 and 4 behind a call would be read as calls if they weren't passed over.
EACH = [
    rule(0, 1), unrule(0), ruleis(0), speed(0, 0, 1), LEFTS, RELATIONS, ratio(0, 1), level(0), ifspeed(0, 1, 0, 4),
    PAIRS, SAME, ENDS, HIDES, weight(0, 0, 4), steady(0, 4), met(0, 4)]
WITH_EDGES = [
    ifspeed(0, 1, 1, 0), ifspeed(0, 0, 0, 4), PAIRS, SAME, ENDS, HIDES, weight(0), weight(0, 1, 1),
    weight(9, 0, 1, 0, 1, 0, 1, 0, 1, 0, 1), steady(), steady(1, 1), steady(0, 1, 0, 1, 0, 1, 0, 1, 0, 1),
    met(), met(1, 1), met(0, 1, 0, 1, 0, 1, 0, 1, 0, 1)]


class BeforeBegin(unittest.TestCase):
    def test_each_other_call(self):
        for call in EACH + WITH_EDGES:
            self.assertEqual(ask(call), [[-11]], call)

    def test_all_in_one_list(self):
        self.assertEqual(ask(*EACH, *WITH_EDGES), [[-11]] * len(EACH + WITH_EDGES))

    def test_behind_a_refused_begin(self):
        for n in (0, 5, 4294967295):
            self.assertEqual(ask(begin(n), *EACH), [[-22]] + [[-11]] * len(EACH))

    def test_rows_of_each_length(self):
        for size in range(11):
            row = [0] * size
            told = ask(rule(*row), weight(0, *row), steady(*row), met(*row), begin(1))
            self.assertEqual(told, [[-11]] * 4 + [[0]], size)

    def test_refused_calls_leave_nothing_behind(self):
        told = ask(rule(0, 1), begin(1), ruleis(0), rule(0, 1))
        self.assertEqual(told, [[-11], [0], [-2], [0]])


class Layout(unittest.TestCase):
    def test_written_out(self):
        calls = [0, 2, 1, 4, 1, 1, 0, 2, 1, 4, 0, 1, 1, 0, 4, 0, 3, 1, 3, 0, 5, 6, 7, 0, 2, 8, 0, 8, 2, 2, 0]
        told = [1, 0, 1, 0, 1, 1, 1, 0, 7, 2, 1, 1, 0, 2, 3, 1, 3, 2, 0, 2, 5, 1, 1, 1, -1, 3]
        told += [3, 0, 1, 3, 3, 1, 1, 3, 1, -2, 1, 1]
        self.assertEqual(answers(calls), told)

    def test_written_out_of_the_other_calls(self):
        calls = [0, 2, 1, 4, 1, 1, 0, 2, 1, 4, 0, 1, 1, 0, 9, 0, 3, 1, 0, 10, 11, 12, 13]
        calls += [14, 1, 3, 2, 3, 5, 15, 3, 1, 1, 9, 15, 3, 2, 1, 9, 16, 3, 1, 1, 9, 16, 0, 14, 4, 0, 9, 2, 0, 0, 0]
        told = [1, 0, 1, 0, 1, 1, 3, 1, 1, 3, 4, 1, 0, 0, 2, 2, 1, 0, 3, 2, 1, 3, 1, 1]
        told += [3, 0, 25, 4, 1, 1, 1, 0, 1, 1, 1, -22, 1, -2, 1, -2]
        self.assertEqual(answers(calls), told)

    def test_behind_calls_that_are_passed_over_whole(self):
        for call in WITH_EDGES:
            told = ask(begin(1), rule(0, 1), call, ruleis(0), rule(1, 0), LEFTS)
            self.assertEqual(told[3:], [[1, 0, 1, 1, 1], [1], [2, 0, 1]], call)

    def test_each_call_is_answered(self):
        for call in EACH + WITH_EDGES:
            told = ask_last(begin(1), rule(0, 1), call)
            self.assertGreaterEqual(len(told), 1, call)
            if told[0] < 0:
                self.assertEqual(len(told), 1, call)

    def test_rows_of_no_rule_are_passed_over(self):
        for size in (0, 1, 3, 10):
            told = ask(begin(1), rule(*[0] * size), rule(0, 1), ruleis(0))
            self.assertEqual(told[1:], [[-22], [0], [1, 0, 1, 1, 1]], size)

    def test_sixty_calls(self):
        self.assertEqual(ask(begin(4), *[level(3)] * 59), [[0]] + [[-33]] * 59)
        self.assertEqual(ask(begin(4), *[met(1, 1, 1, 1, 1)] * 59), [[0]] + [[1]] * 59)


class NothingKept(unittest.TestCase):
    CALLS = [
        0, 2, 1, 4, 1, 1, 0, 2, 1, 4, 0, 1, 1, 0, 4, 0, 3, 1, 5, 6, 7, 0, 2, 8, 0, 9, 1, 5, 2, 0, 10, 11, 12, 13,
        14, 0, 3, 2, 3, 5, 15, 3, 3, 1, 7, 16, 3, 3, 1, 7, 16, 2, 0, 0, 1, 3, 9, 9, 9, 2, 1, 0, 7, 3, 0]

    def test_list_is_as_it_was(self):
        handed = list(self.CALLS)
        answers(handed)
        self.assertEqual(handed, self.CALLS)

    def test_second_time_as_the_first(self):
        first = answers(list(self.CALLS))
        self.assertEqual(answers(list(self.CALLS)), first)
        self.assertEqual(answers([5]), [1, -11])
        self.assertEqual(answers(list(self.CALLS)), first)

    def test_answer_is_the_callers_own(self):
        first = answers(list(self.CALLS))
        kept = list(first)
        first.clear()
        self.assertEqual(answers(list(self.CALLS)), kept)

    def test_plain_whole_numbers_alone(self):
        told = answers(list(self.CALLS))
        self.assertIs(type(told), list)
        self.assertEqual({type(number) for number in told}, {int})
        self.assertEqual(len(split(told)), 21)


if __name__ == "__main__":
    unittest.main()
