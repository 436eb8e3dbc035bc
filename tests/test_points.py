"""Promise 4: weight, steady, met, and what is a point."""

import unittest

from calling import LEFTS, RELATIONS, ask, ask_last, begin, ifspeed, level, met, rule, ruleis, speed, steady, weight

GREAT = 4294967295

# The mixtures: 0 A+B, 1 2B, 2 B, 3 A. It's steady where A is the second speed by the first.
SWITCH = [begin(2), rule(1, 1, 0, 2), rule(0, 1, 1, 0)]


def is_point(n, row):
    left = [1] * n
    told = ask(begin(n), rule(*left, *[0] * n), weight(0, *row), steady(*row), met(*row))[2:]
    return [answer != [-22] for answer in told]


class Point(unittest.TestCase):
    def test_divisor(self):
        for n in (1, 4):
            for divisor, good in ((0, False), (1, True), (60, True), (61, False), (GREAT, False)):
                self.assertEqual(is_point(n, [divisor] + [7] * n), [good] * 3, (n, divisor))

    def test_number_at_each_place(self):
        for n in (1, 2, 3, 4):
            for place in range(1, n + 1):
                for number, good in ((0, False), (1, True), (1000, True), (1001, False), (GREAT, False)):
                    row = [7] * (n + 1)
                    row[place] = number
                    self.assertEqual(is_point(n, row), [good] * 3, row)

    def test_how_many_numbers(self):
        for n in (1, 2, 3, 4):
            for size in range(11):
                self.assertEqual(is_point(n, [1] * size), [size == n + 1] * 3, (n, size))

    def test_without_rules(self):
        for row in ([], [1], [0, 1], [61, 1], [1, 0], [1, 1001], [1, 1, 1], [1] * 10):
            self.assertEqual(ask(begin(1), steady(*row), met(*row))[1:], [[-22], [-22]], row)
        self.assertEqual(ask(begin(1), steady(60, 1000), met(1, 1))[1:], [[1], [1]])

    def test_by_the_substances_of_the_last_begin(self):
        told = ask(begin(1), steady(1, 1), begin(2), steady(1, 1), steady(1, 1, 1))
        self.assertEqual([told[1], told[3], told[4]], [[1], [-22], [1]])


class Weight(unittest.TestCase):
    def test_of_each_mixture(self):
        told = ask(*SWITCH, *[weight(i, 2, 3, 5) for i in range(4)])
        self.assertEqual(told[3:], [[0, 15, 4], [0, 25, 4], [0, 5, 2], [0, 3, 2]])

    def test_nothing_in_common(self):
        told = ask(*SWITCH, weight(0, 60, 30, 20), weight(3, 6, 6, 1), weight(3, 4, 1000, 1), weight(1, 4, 1, 2))
        self.assertEqual(told[3:], [[0, 1, 6], [0, 1, 1], [0, 250, 1], [0, 1, 4]])

    def test_of_a_mixture_of_nothing(self):
        told = ask(begin(2), rule(0, 0, 1, 0), weight(0, 7, 3, 5), weight(1, 7, 3, 5))
        self.assertEqual(told[2:], [[0, 1, 1], [0, 3, 7]])

    def test_as_often_as_it_has_of_it(self):
        for often in (1, 2, 3):
            told = ask_last(begin(1), rule(often, 0), weight(0, 2, 3))
            self.assertEqual(told, [0, 3 ** often, 2 ** often])

    def test_greatest_and_least(self):
        full = [begin(4), rule(3, 3, 3, 3, 0, 0, 0, 0)]
        told = ask(*full, weight(0, 1, 1000, 1000, 1000, 1000), weight(0, 60, 1, 1, 1, 1))
        self.assertEqual(told[2:], [[0, 10 ** 36, 1], [0, 1, 60 ** 12]])

    def test_of_each_substance_its_own(self):
        told = ask_last(begin(4), rule(0, 1, 2, 3, 0, 0, 0, 0), weight(0, 1, 2, 3, 5, 7))
        self.assertEqual(told, [0, 3 * 5 ** 2 * 7 ** 3, 1])

    def test_no_such_mixture(self):
        told = ask(*SWITCH, weight(4, 1, 1, 1), weight(GREAT, 1, 1, 1))
        self.assertEqual(told[3:], [[-2], [-2]])
        self.assertEqual(ask(begin(2), weight(0, 1, 1, 1))[1:], [[-2]])

    def test_no_such_mixture_stands_ahead_of_no_point(self):
        for row in ([], [1, 1], [0, 1, 1], [61, 1, 1], [1, 0, 1], [1, 1, 1001], [1] * 10):
            self.assertEqual(ask_last(*SWITCH, weight(4, *row)), [-2], row)
            self.assertEqual(ask_last(*SWITCH, weight(3, *row)), [-22], row)
        self.assertEqual(ask_last(begin(2), weight(0, 0)), [-2])

    def test_whatever_the_speeds(self):
        told = ask(*SWITCH, speed(0, 5, 7), weight(0, 2, 3, 5))
        self.assertEqual(told[4], [0, 15, 4])


class Steady(unittest.TestCase):
    def test_at_the_speeds_that_there_are(self):
        told = ask(
            *SWITCH, steady(1, 1, 9), steady(3, 2, 9), speed(0, 3, 1), steady(1, 1, 9), speed(1, 2, 1),
            steady(3, 2, 9), steady(6, 4, 1000), steady(60, 40, 1), steady(3, 3, 9), steady(1, 1, 9))
        self.assertEqual([told[k] for k in (3, 4, 6, 8, 9, 10, 11, 12)], [[1], [0], [0], [1], [1], [1], [0], [0]])

    def test_no_rules(self):
        for n in (1, 2, 3, 4):
            self.assertEqual(ask_last(begin(n), steady(60, *[17] * n)), [1])

    def test_one_substance_that_changes_is_enough(self):
        for n in (1, 2, 3, 4):
            for s in range(n):
                more = [1] * n
                more[s] = 2
                self.assertEqual(ask_last(begin(n), rule(*[1] * n, *more), steady(*[1] * (n + 1))), [0], (n, s))

    def test_how_much_more_there_is_of_it(self):
        # Nothing to 3A brings three for each one that goes.
        told = ask(begin(1), rule(0, 3), rule(1, 0), steady(1, 3), steady(1, 1), steady(2, 6))
        self.assertEqual(told[3:], [[1], [0], [1]])

    def test_nothing_by_a_mixture_of_both(self):
        told = ask(begin(2), rule(1, 0, 0, 1), rule(0, 1, 1, 0), speed(0, 5, 1), steady(1, 1, 5), steady(1, 5, 1))
        self.assertEqual(told[4:], [[1], [0]])

    def test_of_some_points_of_one_object(self):
        # A to nothing, A to 2A at the same speed: A is steady at any amount.
        told = ask(begin(1), rule(1, 0), rule(1, 2), steady(7, 3), steady(1, 1000), speed(0, 2, 1), steady(7, 3))
        self.assertEqual([told[3], told[4], told[6]], [[1], [1], [0]])

    def test_asking_changes_nothing(self):
        seen = [ruleis(0), ruleis(1), LEFTS, RELATIONS, level(0)]
        told = ask(*SWITCH, *seen, steady(1, 1, 1), met(1, 1, 1), weight(0, 1, 1, 1), steady(0), *seen)
        self.assertEqual(told[3:8], told[12:])


class Met(unittest.TestCase):
    def test_at_a_fraction(self):
        told = ask(*SWITCH, speed(0, 3, 1), speed(1, 2, 1), met(3, 2, 9), met(60, 40, 1), met(3, 3, 9), met(1, 2, 3))
        self.assertEqual(told[5:], [[1], [1], [0], [0]])

    def test_no_level_at_all(self):
        self.assertEqual(ask_last(begin(3), met(1, 2, 3, 4)), [1])
        self.assertEqual(ask_last(begin(2), rule(1, 0, 0, 1), met(1, 2, 3)), [1])

    def test_e_above_1(self):
        told = ask(begin(1), rule(0, 2), rule(2, 0), speed(0, 4, 1), level(0), met(1, 2), met(1, 4), met(1, 1))
        self.assertEqual(told[4:], [[2, 4, 1], [1], [0], [0]])
        told = ask(begin(1), rule(0, 3), rule(3, 0), speed(0, 27, 8), level(0), met(2, 3), met(8, 27), met(4, 9))
        self.assertEqual(told[4:], [[3, 27, 8], [1], [0], [0]])

    def test_a_level_that_no_point_has(self):
        calls = [begin(1), rule(0, 2), rule(2, 0), speed(0, 2, 1)]
        told = ask(*calls, level(0), *[met(60, number) for number in (84, 85, 120)])
        self.assertEqual(told[4:], [[2, 2, 1], [0], [0], [0]])

    def test_of_each_substance_that_has_one(self):
        both = [begin(2), rule(0, 0, 1, 0), rule(1, 0, 0, 0), rule(0, 0, 0, 1), rule(0, 1, 0, 0), speed(0, 2, 1),
                speed(2, 3, 1)]
        told = ask(*both, level(0), level(1), met(1, 2, 3), met(1, 2, 2), met(1, 3, 3), met(1, 3, 2))
        self.assertEqual(told[7:], [[1, 2, 1], [1, 3, 1], [1], [0], [0], [0]])

    def test_where_it_is_not_steady(self):
        # C goes, and nothing brings it: it's never steady, and A has its level still.
        told = ask(
            begin(3), rule(1, 1, 0, 0, 2, 0), rule(0, 1, 0, 1, 0, 0), rule(0, 0, 1, 0, 0, 0), level(0), level(2),
            met(1, 1, 5, 5), steady(1, 1, 5, 5), met(1, 2, 5, 5))
        self.assertEqual(told[4:], [[1, 1, 1], [-33], [1], [0], [0]])

    def test_steady_and_no_level(self):
        told = ask(begin(2), rule(1, 0, 0, 1), rule(0, 1, 1, 0), level(0), level(1), met(1, 7, 9), steady(1, 7, 9))
        self.assertEqual(told[3:], [[-33], [-33], [1], [0]])

    def test_at_the_speeds_that_there_are(self):
        told = ask(*SWITCH, met(2, 1, 1), ifspeed(0, 2, 1, 0), met(2, 1, 1), speed(0, 2, 1), met(2, 1, 1))
        self.assertEqual(told[3:], [[0], [1, 1, 2], [0], [0], [1]])


if __name__ == "__main__":
    unittest.main()
