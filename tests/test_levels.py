"""Promise 2 but for ifspeed: lefts, relations, ratio, level."""

import unittest

from calling import LEFTS, RELATIONS, ask, ask_last, begin, level, ratio, rule, speed, unrule

GREAT = 4294967295

# Both with one level: A and B to B twice, and B to A. The mixtures: 0 A+B, 1 2B, 2 B, 3 A.
SWITCH = [begin(2), rule(1, 1, 0, 2), rule(0, 1, 1, 0)]

# Three mixtures taken that have B and C alike and 3, 1 and 0 of A; by B and C all weights are as one.
# Their numbers are 0, 2, 4, in the order in which the rules come.
MUCH = rule(3, 1, 1, 3, 0, 0)
SOME = rule(1, 1, 1, 1, 2, 1)
NONE = rule(0, 1, 1, 0, 1, 2)


class NoRules(unittest.TestCase):
    def test_nothing_is_taken(self):
        for n in (1, 4):
            told = ask(begin(n), LEFTS, RELATIONS, ratio(0, 0), ratio(0, 1), level(0), level(n - 1), level(n))
            self.assertEqual(told[1:], [[0], [0], [-2], [-2], [-33], [-33], [-2]])

    def test_all_rules_taken_out(self):
        told = ask(*SWITCH, unrule(0), unrule(0), LEFTS, RELATIONS, level(0))
        self.assertEqual(told[5:], [[0], [0], [-33]])


class Lefts(unittest.TestCase):
    def test_rising_by_their_numbers(self):
        self.assertEqual(ask_last(*SWITCH, LEFTS), [2, 0, 2])

    def test_each_once(self):
        told = ask_last(begin(1), rule(0, 1), rule(0, 2), rule(2, 0), rule(2, 1), LEFTS)
        self.assertEqual(told, [2, 0, 2])

    def test_right_one_first_taken_later(self):
        # Mixture 1 is the first rule's right one, and taken by the last rule alone.
        told = ask_last(begin(1), rule(0, 1), rule(2, 3), rule(1, 2), LEFTS)
        self.assertEqual(told, [3, 0, 1, 2])

    def test_a_mixture_never_taken(self):
        told = ask(begin(2), rule(1, 0, 0, 1), LEFTS, ratio(0, 1), ratio(1, 0))
        self.assertEqual(told[2:], [[1, 0], [-2], [-2]])


class Relations(unittest.TestCase):
    def test_of_the_switch(self):
        self.assertEqual(ask_last(*SWITCH, RELATIONS), [1, 1, 1, -1, 1])

    def test_at_speeds(self):
        told = ask_last(*SWITCH, speed(0, 3, 2), speed(1, 5, 7), RELATIONS)
        self.assertEqual(told, [1, 1, 1, -10, 21])

    def test_rules_of_one_mixture_come_together(self):
        # 0 brings 1/2 * 1 + 2 * 3 = 13/2; 1 brings -1.
        told = ask_last(begin(1), rule(0, 1), rule(0, 3), rule(1, 0), speed(0, 1, 2), speed(1, 2, 1), RELATIONS)
        self.assertEqual(told, [1, 1, 1, -2, 13])

    def test_what_is_brought_may_come_to_nothing(self):
        # 1 goes up by 1 and down by 1: it brings nothing, so nothing is told of its weight.
        told = ask(begin(1), rule(1, 2), rule(1, 0), RELATIONS, LEFTS)
        self.assertEqual(told[3:], [[0], [1, 0]])

    def test_the_first_column_may_be_empty(self):
        told = ask(begin(1), rule(1, 2), rule(1, 0), rule(2, 0), rule(0, 1), RELATIONS, LEFTS)
        self.assertEqual(told[5:], [[1, 0, 1, 1, 1, -1, 2], [3, 0, 1, 2]])

    def test_two_in_order_and_cleared_of_each_other(self):
        told = ask_last(begin(3), MUCH, SOME, NONE, RELATIONS)
        self.assertEqual(told, [2, 1, 1, 0, 1, -1, 1, 0, 1, 1, 1, -1, 1])

    def test_rows_in_another_order_than_the_substances(self):
        # The first mixture taken brings only of the last substance.
        told = ask_last(begin(2), rule(1, 1, 1, 2), rule(2, 2, 3, 0), rule(0, 3, 1, 3), RELATIONS)
        self.assertEqual(told, [2, 1, 1, 0, 1, 2, 1, 0, 1, 1, 1, 1, 1])

    def test_substances_that_tell_the_same_tell_it_once(self):
        told = ask_last(begin(4), rule(1, 1, 0, 0, 0, 0, 1, 1), rule(0, 0, 1, 1, 1, 1, 0, 0), RELATIONS)
        self.assertEqual(told, [1, 1, 1, -1, 1])

    def test_all_four(self):
        told = ask_last(
            begin(4), rule(1, 0, 0, 0, 0, 0, 0, 0), rule(0, 1, 0, 0, 0, 0, 0, 0),
            rule(0, 0, 1, 0, 0, 0, 0, 0), rule(0, 0, 0, 1, 0, 0, 0, 0), rule(0, 0, 0, 0, 1, 2, 3, 1),
            speed(1, 3, 1), RELATIONS)
        # In order: A, nothing (the first rule's right one), B, C, D; the last leads no relation.
        self.assertEqual(told, [
            4, 1, 1, 0, 1, 0, 1, 0, 1, -1, 1,
            0, 1, 1, 1, 0, 1, 0, 1, -1, 1,
            0, 1, 0, 1, 1, 1, 0, 1, -2, 3,
            0, 1, 0, 1, 0, 1, 1, 1, -3, 1])


class Ratio(unittest.TestCase):
    def test_both_ways(self):
        told = ask(*SWITCH, speed(0, 3, 2), speed(1, 5, 7), ratio(0, 2), ratio(2, 0))
        self.assertEqual(told[5:], [[0, 10, 21], [0, 21, 10]])

    def test_no_such_mixture_taken(self):
        told = ask(*SWITCH, ratio(0, 1), ratio(1, 0), ratio(3, 2), ratio(0, 4), ratio(GREAT, 0), ratio(0, GREAT))
        self.assertEqual(told[3:], [[-2]] * 6)

    def test_by_itself_it_is_1(self):
        self.assertEqual(ask_last(*SWITCH, ratio(2, 2)), [0, 1, 1])

    def test_a_weight_that_is_always_nothing(self):
        # A comes to nothing for ever; B and nothing are as one.
        told = ask(
            begin(2), rule(1, 0, 0, 0), rule(0, 1, 0, 0), rule(0, 0, 0, 1), RELATIONS,
            ratio(0, 0), ratio(0, 1), ratio(1, 0), ratio(1, 2), ratio(2, 1))
        self.assertEqual(told[4], [2, 1, 1, 0, 1, 0, 1, 0, 1, 1, 1, -1, 1])
        self.assertEqual(told[5:], [[-33], [-33], [-33], [0, 1, 1], [0, 1, 1]])

    def test_two_that_are_always_nothing(self):
        told = ask(begin(2), rule(1, 0, 0, 0), rule(0, 1, 0, 0), ratio(0, 2), ratio(2, 0))
        self.assertEqual(told[3:], [[-33], [-33]])

    def test_below_0_is_none(self):
        # Both make less of A: the one weight would be less than 0 if the other one is more.
        told = ask(begin(1), rule(1, 0), rule(2, 0), RELATIONS, ratio(0, 2), ratio(2, 0))
        self.assertEqual(told[3:], [[1, 1, 1, 2, 1], [-33], [-33]])

    def test_free_of_each_other(self):
        told = ask(begin(1), rule(0, 1), rule(1, 0), rule(2, 0), ratio(0, 1), ratio(1, 0), ratio(1, 2), ratio(2, 1))
        self.assertEqual(told[4:], [[-33]] * 4)

    def test_no_relation_at_all(self):
        told = ask(begin(1), rule(1, 0), rule(1, 2), rule(2, 1), rule(2, 3), ratio(0, 2), ratio(0, 0))
        self.assertEqual(told[5:], [[-33], [0, 1, 1]])

    def test_between_two_that_lead(self):
        told = ask(begin(3), MUCH, SOME, NONE, speed(0, 2, 1), speed(1, 3, 1), ratio(0, 2), ratio(0, 4), ratio(2, 4))
        self.assertEqual(told[6:], [[0, 3, 2], [0, 1, 2], [0, 1, 3]])


class Level(unittest.TestCase):
    def test_at_a_fraction(self):
        told = ask(*SWITCH, speed(0, 3, 1), speed(1, 2, 1), level(0), level(1), level(2))
        self.assertEqual(told[5:], [[1, 2, 3], [-33], [-2]])

    def test_no_such_substance(self):
        told = ask(*SWITCH, level(2), level(GREAT))
        self.assertEqual(told[3:], [[-2], [-2]])

    def test_a_mixture_of_nothing_taken(self):
        told = ask(begin(1), rule(0, 1), rule(1, 0), speed(0, 5, 1), RELATIONS, ratio(1, 0), level(0))
        self.assertEqual(told[4:], [[1, 1, 1, -1, 5], [0, 5, 1], [1, 5, 1]])

    def test_a_rule_and_the_same_one_back(self):
        told = ask(begin(2), rule(2, 1, 1, 1), rule(1, 1, 2, 1), speed(0, 4, 1), level(0), level(1))
        self.assertEqual(told[4:], [[1, 1, 4], [-33]])

    def test_e_above_1(self):
        for e in (2, 3):
            told = ask_last(begin(1), rule(0, e), rule(e, 0), speed(0, 8, 1), speed(1, 1, 3), level(0))
            self.assertEqual(told, [e, 24, 1])

    def test_alike_but_for_the_substance_and_no_ratio(self):
        self.assertEqual(ask_last(begin(1), rule(1, 0), rule(2, 0), level(0)), [-33])
        self.assertEqual(ask_last(begin(1), rule(0, 1), rule(1, 0), rule(2, 0), level(0)), [-33])

    def test_a_ratio_but_not_alike(self):
        # A to B and back: their weights have a ratio, but they differ in two substances.
        told = ask(begin(2), rule(1, 0, 0, 1), rule(0, 1, 1, 0), ratio(0, 1), level(0), level(1))
        self.assertEqual(told[3:], [[0, 1, 1], [-33], [-33]])

    def test_alike_to_a_mixture_never_taken(self):
        self.assertEqual(ask_last(begin(1), rule(1, 0), rule(2, 1), rule(2, 3), level(0)), [-33])

    def test_of_a_substance_at_each_place(self):
        for s in range(4):
            less = [1, 1, 1, 1]
            more = [1, 1, 1, 1]
            more[s] = 3
            calls = [begin(4), rule(*less, *more), rule(*more, *less), speed(1, 9, 1)]
            for other in range(4):
                self.assertEqual(ask_last(*calls, level(other)), [2, 1, 9] if other == s else [-33])

    def test_the_first_one_and_the_first_other_one(self):
        speeds = {0: 2, 1: 3, 2: 5}
        for order, expected in (
                ((MUCH, SOME, NONE), [2, 3, 2]),
                ((MUCH, NONE, SOME), [3, 3, 2]),
                ((SOME, MUCH, NONE), [1, 5, 2]),
                ((SOME, NONE, MUCH), [1, 3, 2]),
                ((NONE, MUCH, SOME), [3, 2, 3]),
                ((NONE, SOME, MUCH), [1, 2, 3])):
            calls = [begin(3), *order]
            calls += [speed(j, a, 1) for j, a in speeds.items()]
            self.assertEqual(ask_last(*calls, level(0)), expected, order)

    def test_passes_over_two_without_a_ratio(self):
        # 3A+B comes to nothing for ever, and is the first that has more of A; A+B and B have a ratio.
        told = ask(
            begin(3), rule(3, 1, 0, 3, 1, 1), rule(1, 1, 0, 1, 0, 0), rule(0, 1, 0, 0, 2, 0),
            speed(1, 2, 1), speed(2, 3, 1), ratio(0, 2), ratio(0, 4), level(0))
        self.assertEqual(told[6:], [[-33], [-33], [1, 3, 2]])

    def test_passes_over_an_other_one_without_a_ratio(self):
        # Of 2A+B the first other one is A+B, whose weight is always nothing; the next is B.
        told = ask(
            begin(3), rule(1, 1, 0, 1, 1, 1), rule(2, 1, 0, 2, 0, 0), rule(0, 1, 0, 0, 2, 0),
            speed(1, 2, 1), speed(2, 3, 1), level(0))
        self.assertEqual(told[6], [2, 3, 2])

    def test_stays_if_all_speeds_are_so_many_times_as_great(self):
        slow = ask_last(*SWITCH, speed(0, 3, 4), speed(1, 5, 6), level(0))
        fast = ask_last(*SWITCH, speed(0, 30, 4), speed(1, 50, 6), level(0))
        self.assertEqual(slow, [1, 10, 9])
        self.assertEqual(fast, slow)

    def test_asking_changes_nothing(self):
        asked = [LEFTS, RELATIONS, ratio(0, 2), level(0), level(1)]
        told = ask(*SWITCH, *asked, *asked)
        self.assertEqual(told[3:8], told[8:])


if __name__ == "__main__":
    unittest.main()
