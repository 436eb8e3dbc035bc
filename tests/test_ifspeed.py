"""Promise 2, of ifspeed: what a level would be at another speed, and that nothing is changed by asking."""

import unittest

from calling import LEFTS, RELATIONS, ask, ask_last, begin, ifspeed, level, ratio, rule, ruleis, speed

GREAT = 4294967295

# A and B to B twice, and B to A: the level of A is the second speed by the first.
SWITCH = [begin(2), rule(1, 1, 0, 2), rule(0, 1, 1, 0)]


class IfSpeed(unittest.TestCase):
    def test_what_level_would_tell(self):
        told = ask(*SWITCH, ifspeed(0, 3, 1, 0), ifspeed(1, 3, 1, 0), ifspeed(0, 2, 5, 0), ifspeed(0, 2, 5, 1))
        self.assertEqual(told[3:], [[1, 1, 3], [1, 3, 1], [1, 5, 2], [-33]])

    def test_other_rules_keep_their_speeds(self):
        told = ask(*SWITCH, speed(0, 7, 2), speed(1, 5, 3), ifspeed(0, 3, 1, 0), ifspeed(1, 3, 1, 0))
        self.assertEqual(told[5:], [[1, 5, 9], [1, 6, 7]])

    def test_at_the_speed_that_it_has(self):
        told = ask(*SWITCH, speed(0, 7, 2), speed(1, 5, 3), level(0), ifspeed(0, 7, 2, 0), ifspeed(1, 10, 6, 0))
        self.assertEqual(told[5:], [[1, 10, 21]] * 3)

    def test_told_with_nothing_in_common(self):
        self.assertEqual(ask_last(*SWITCH, ifspeed(0, 500, 1000, 0)), [1, 2, 1])
        self.assertEqual(ask_last(*SWITCH, ifspeed(1, 500, 1000, 0)), [1, 1, 2])

    def test_e_above_1(self):
        for e in (2, 3):
            told = ask_last(begin(1), rule(0, e), rule(e, 0), ifspeed(0, 9, 2, 0))
            self.assertEqual(told, [e, 9, 2])

    def test_tells_what_level_cannot_and_the_other_way_round(self):
        # At one speed A brings as much as it takes: nothing's weight is always nothing.
        leak = [begin(1), rule(1, 0), rule(1, 2), rule(0, 1)]
        told = ask(*leak, level(0), ifspeed(0, 3, 1, 0), level(0), speed(0, 3, 1), level(0), ifspeed(0, 1, 1, 0))
        self.assertEqual(told[4:], [[-33], [1, 1, 2], [-33], [0], [1, 1, 2], [-33]])

    def test_leaves_all_as_it_was(self):
        seen = [ruleis(0), ruleis(1), LEFTS, RELATIONS, ratio(0, 2), level(0)]
        told = ask(*SWITCH, speed(0, 3, 4), *seen, ifspeed(0, 5, 7, 0), ifspeed(1, 9, 1, 0), *seen)
        self.assertEqual(told[4:10], told[12:])
        self.assertEqual(told[4], [2, 1, 1, 0, 2, 3, 4])
        self.assertEqual(told[10:12], [[1, 7, 5], [1, 12, 1]])

    def test_refused_leaves_all_as_it_was(self):
        told = ask(*SWITCH, speed(0, 3, 4), ifspeed(0, 5, 1001, 0), ifspeed(0, 5, 7, 2), ifspeed(0, 5, 7, 1), ruleis(0))
        self.assertEqual(told[4:], [[-22], [-2], [-33], [2, 1, 1, 0, 2, 3, 4]])


class Refusals(unittest.TestCase):
    def test_no_such_rule(self):
        told = ask(*SWITCH, ifspeed(1, 1, 1, 0), ifspeed(2, 1, 1, 0), ifspeed(GREAT, 1, 1, 0))
        self.assertEqual(told[3:], [[1, 1, 1], [-2], [-2]])

    def test_no_such_substance(self):
        told = ask(*SWITCH, ifspeed(0, 1, 1, 1), ifspeed(0, 1, 1, 2), ifspeed(0, 1, 1, GREAT))
        self.assertEqual(told[3:], [[-33], [-2], [-2]])

    def test_no_rules(self):
        self.assertEqual(ask(begin(4), ifspeed(0, 1, 1, 0), ifspeed(0, 0, 0, 4))[1:], [[-2], [-2]])

    def test_edges_of_a_and_b(self):
        for number in (0, 1001, GREAT):
            self.assertEqual(ask_last(*SWITCH, ifspeed(0, number, 7, 0)), [-22], number)
            self.assertEqual(ask_last(*SWITCH, ifspeed(0, 7, number, 0)), [-22], number)
        for number in (1, 1000):
            self.assertEqual(ask_last(*SWITCH, ifspeed(0, number, 7, 0)), [1, 7, number])
            self.assertEqual(ask_last(*SWITCH, ifspeed(0, 7, number, 0)), [1, number, 7])

    def test_no_such_stands_ahead_of_a_wrong_speed(self):
        told = ask(*SWITCH, ifspeed(2, 0, 1, 0), ifspeed(0, 1, 1001, 2), ifspeed(2, 0, 0, 2), ifspeed(2, 1, 1, 1))
        self.assertEqual(told[3:], [[-2]] * 4)

    def test_a_wrong_speed_stands_ahead_of_no_level(self):
        told = ask(*SWITCH, ifspeed(0, 0, 1, 1), ifspeed(0, 1, 0, 1), ifspeed(0, 1001, 1001, 1))
        self.assertEqual(told[3:], [[-22]] * 3)


if __name__ == "__main__":
    unittest.main()
