"""Promise 1: begin, rule, unrule, ruleis, speed."""

import unittest

from calling import LEFTS, ask, ask_last, begin, level, rule, ruleis, speed, unrule

GREAT = 4294967295
EIGHT = [rule(0, k) for k in (1, 2, 3)] + [rule(1, k) for k in (0, 2, 3)] + [rule(2, k) for k in (0, 1)]


class Begin(unittest.TestCase):
    def test_how_many_substances(self):
        for n, expected in ((0, -22), (1, 0), (2, 0), (3, 0), (4, 0), (5, -22), (GREAT, -22)):
            self.assertEqual(ask(begin(n)), [[expected]], n)

    def test_begins_without_rules(self):
        self.assertEqual(ask(begin(3), ruleis(0), unrule(0), LEFTS), [[0], [-2], [-2], [0]])

    def test_again_takes_all_rules_away(self):
        told = ask(begin(1), rule(0, 1), speed(0, 2, 3), begin(1), ruleis(0), rule(0, 1), ruleis(0))
        self.assertEqual(told[3:], [[0], [-2], [0], [1, 0, 1, 1, 1]])

    def test_again_with_other_substances(self):
        told = ask(begin(1), rule(0, 1), begin(2), rule(0, 1), rule(0, 1, 1, 0), ruleis(0), level(1), level(2))
        self.assertEqual(told[2:], [[0], [-22], [0], [2, 0, 1, 1, 0, 1, 1], [-33], [-2]])

    def test_refused_changes_nothing(self):
        for n in (0, 5):
            told = ask(begin(1), rule(0, 1), speed(0, 2, 3), begin(n), ruleis(0), rule(1, 0), rule(1, 1, 0, 0))
            self.assertEqual(told[3:], [[-22], [1, 0, 1, 2, 3], [1], [-22]])


class Rule(unittest.TestCase):
    def test_numbers_rise_from_0(self):
        self.assertEqual(ask(begin(1), *EIGHT)[1:], [[k] for k in range(8)])

    def test_row_as_long_as_two_mixtures(self):
        for n in (1, 2, 3, 4):
            for size in range(11):
                row = [1] + [0] * (size - 1) if size else []
                expected = 0 if size == 2 * n else -22
                self.assertEqual(ask_last(begin(n), rule(*row)), [expected], (n, size))

    def test_at_most_3_of_a_substance(self):
        for n in (1, 4):
            for place in range(2 * n):
                for amount, expected in ((1, 0), (2, 0), (3, 0), (4, -22), (GREAT, -22)):
                    row = [0] * (2 * n)
                    row[place] = amount
                    self.assertEqual(ask_last(begin(n), rule(*row)), [expected], (row,))

    def test_both_mixtures_the_same(self):
        self.assertEqual(ask_last(begin(1), rule(2, 2)), [-22])
        self.assertEqual(ask_last(begin(2), rule(0, 0, 0, 0)), [-22])
        self.assertEqual(ask_last(begin(2), rule(1, 2, 1, 2)), [-22])
        self.assertEqual(ask_last(begin(2), rule(1, 2, 2, 1)), [0])

    def test_there_already(self):
        told = ask(begin(2), rule(1, 0, 0, 1), rule(0, 1, 1, 0), rule(1, 0, 0, 1), rule(0, 1, 1, 0))
        self.assertEqual(told[1:], [[0], [1], [-17], [-17]])

    def test_there_already_at_another_speed(self):
        told = ask(begin(1), rule(0, 1), speed(0, 5, 7), rule(0, 1), ruleis(0), ruleis(1))
        self.assertEqual(told[3:], [[-17], [1, 0, 1, 5, 7], [-2]])

    def test_same_left_or_same_right_is_another_rule(self):
        self.assertEqual(ask(begin(1), rule(0, 1), rule(0, 2), rule(3, 2))[1:], [[0], [1], [2]])

    def test_ninth(self):
        told = ask(begin(1), *EIGHT, rule(3, 0), ruleis(7), ruleis(8))
        self.assertEqual(told[9:], [[-28], [1, 2, 1, 1, 1], [-2]])

    def test_the_first_refusal_due(self):
        told = ask(begin(1), *EIGHT, rule(2, 0), rule(3, 3), rule(4, 0), rule(0), rule(3, 1))
        self.assertEqual(told[9:], [[-17], [-22], [-22], [-22], [-28]])

    def test_room_again_behind_an_unrule(self):
        told = ask(begin(1), *EIGHT, unrule(0), rule(3, 0), rule(3, 1))
        self.assertEqual(told[9:], [[7], [7], [-28]])


class Unrule(unittest.TestCase):
    def test_how_many_are_left(self):
        told = ask(begin(1), rule(0, 1), rule(1, 0), rule(0, 2), unrule(1), unrule(1), unrule(1), unrule(0), unrule(0))
        self.assertEqual(told[4:], [[2], [1], [-2], [0], [-2]])

    def test_those_behind_are_numbered_one_less(self):
        told = ask(
            begin(1), rule(0, 1), rule(0, 2), rule(0, 3), speed(1, 1, 2), speed(2, 1, 3),
            unrule(1), ruleis(0), ruleis(1), ruleis(2))
        self.assertEqual(told[6:], [[2], [1, 0, 1, 1, 1], [1, 0, 3, 1, 3], [-2]])

    def test_taken_out_it_may_come_again_at_speed_1(self):
        told = ask(begin(1), rule(0, 1), speed(0, 1, 2), rule(1, 0), unrule(0), rule(0, 1), ruleis(1))
        self.assertEqual(told[4:], [[1], [1], [1, 0, 1, 1, 1]])

    def test_no_such(self):
        told = ask(begin(1), rule(0, 1), unrule(1), unrule(GREAT), ruleis(0))
        self.assertEqual(told[2:], [[-2], [-2], [1, 0, 1, 1, 1]])

    def test_mixtures_are_numbered_anew(self):
        told = ask(begin(1), rule(0, 1), rule(2, 3), rule(3, 2), LEFTS, unrule(0), LEFTS)
        self.assertEqual([told[4], told[6]], [[3, 0, 2, 3], [2, 0, 1]])


class Ruleis(unittest.TestCase):
    def test_left_right_speed(self):
        told = ask(begin(4), rule(0, 1, 2, 3, 3, 2, 1, 0), speed(0, 999, 1000), ruleis(0))
        self.assertEqual(told[3], [4, 0, 1, 2, 3, 3, 2, 1, 0, 999, 1000])

    def test_no_such(self):
        self.assertEqual(ask(begin(1), rule(0, 1), ruleis(1), ruleis(GREAT))[2:], [[-2], [-2]])


class Speed(unittest.TestCase):
    def test_edges_of_a_and_b(self):
        for number, expected in ((0, -22), (1, 0), (1000, 0), (1001, -22), (GREAT, -22)):
            self.assertEqual(ask_last(begin(1), rule(0, 1), speed(0, number, 7)), [expected])
            self.assertEqual(ask_last(begin(1), rule(0, 1), speed(0, 7, number)), [expected])

    def test_told_with_nothing_in_common(self):
        for a, b, expected in ((500, 1000, [1, 2]), (1000, 1000, [1, 1]), (6, 4, [3, 2]), (1000, 1, [1000, 1])):
            told = ask_last(begin(1), rule(0, 1), speed(0, a, b), ruleis(0))
            self.assertEqual(told, [1, 0, 1] + expected)

    def test_of_that_rule_alone(self):
        told = ask(begin(1), rule(0, 1), rule(1, 0), speed(1, 3, 4), ruleis(0), ruleis(1))
        self.assertEqual(told[4:], [[1, 0, 1, 1, 1], [1, 1, 0, 3, 4]])

    def test_takes_the_place_of_the_one_before(self):
        told = ask_last(begin(1), rule(0, 1), speed(0, 3, 4), speed(0, 2, 5), ruleis(0))
        self.assertEqual(told, [1, 0, 1, 2, 5])

    def test_no_such_rule_stands_first(self):
        told = ask(begin(1), speed(0, 1, 1), rule(0, 1), speed(1, 0, 1001), speed(GREAT, 1, 1))
        self.assertEqual([told[1], told[3], told[4]], [[-2], [-2], [-2]])

    def test_refused_changes_nothing(self):
        told = ask_last(begin(1), rule(0, 1), speed(0, 3, 4), speed(0, 0, 5), speed(0, 5, 1001), ruleis(0))
        self.assertEqual(told, [1, 0, 1, 3, 4])


if __name__ == "__main__":
    unittest.main()
