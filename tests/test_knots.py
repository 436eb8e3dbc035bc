"""Promise 3: pairs, same, ends, hides."""

import unittest

from calling import ENDS, HIDES, PAIRS, SAME, ask, begin, level, rule, speed, unrule

KNOT = [PAIRS, SAME, ENDS, HIDES]

# The mixtures: 0 A+B, 1 2B, 2 B, 3 A.
SWITCH = [begin(2), rule(1, 1, 0, 2), rule(0, 1, 1, 0)]

# Each comes to C, the one that stays; one row is hidden.
NOTHING = rule(0, 0, 0, 0, 0, 1)
BOTH = rule(1, 1, 0, 0, 0, 1)
ONLY_A = rule(1, 0, 0, 0, 0, 1)
ONLY_B = rule(0, 1, 0, 0, 0, 1)


def knot(*calls):
    return ask(*calls, *KNOT)[len(calls):]


class Corners(unittest.TestCase):
    def test_no_rules(self):
        for n in (1, 4):
            self.assertEqual(knot(begin(n)), [[0], [0], [0], [0]])
        self.assertEqual(knot(*SWITCH, unrule(0), unrule(0)), [[0], [0], [0], [0]])

    def test_one_pair(self):
        self.assertEqual(knot(*SWITCH), [[1, 0, 0, 2], [1, 0], [2, 1, 3], [1]])

    def test_a_mixture_of_nothing_that_is_taken(self):
        self.assertEqual(knot(begin(1), rule(0, 1), rule(1, 2)), [[1, 0, 1, 0], [1, 0], [1, 2], [1]])

    def test_a_rule_and_the_same_one_back(self):
        self.assertEqual(knot(begin(1), rule(0, 1), rule(1, 0)), [[0], [0], [2, 0, 1], [0]])

    def test_a_mixture_that_is_never_taken(self):
        self.assertEqual(knot(begin(2), rule(1, 0, 0, 1)), [[0], [0], [1, 1], [0]])

    def test_e_above_1(self):
        # 3A+B and B don't stay.
        told = knot(begin(2), rule(3, 1, 2, 2), rule(0, 1, 1, 0))
        self.assertEqual(told, [[1, 0, 0, 2], [1, 0], [2, 1, 3], [1]])

    def test_one_hidden_and_all_stay(self):
        told = knot(begin(1), rule(0, 1), rule(1, 0), rule(2, 3), rule(3, 2))
        self.assertEqual(told, [[0], [0], [4, 0, 1, 2, 3], [1]])

    def test_whatever_the_speeds(self):
        still = knot(*SWITCH)
        self.assertEqual(knot(*SWITCH, speed(0, 1000, 1), speed(1, 3, 7)), still)

    def test_a_pair_where_no_point_is_steady(self):
        told = ask(begin(1), rule(0, 1), rule(1, 2), PAIRS, level(0))
        self.assertEqual(told[3:], [[1, 0, 1, 0], [-33]])

    def test_asking_changes_nothing(self):
        told = ask(*SWITCH, *KNOT, *KNOT)
        self.assertEqual(told[3:7], told[7:])


class Pairs(unittest.TestCase):
    def test_by_the_one_that_has_more_then_by_the_other_one(self):
        told = knot(begin(3), NOTHING, BOTH, ONLY_B, ONLY_A)
        self.assertEqual(told, [[4, 0, 2, 3, 1, 2, 4, 1, 3, 0, 0, 4, 0], [2, 0, 1], [1, 1], [1]])
        told = knot(begin(3), NOTHING, BOTH, ONLY_A, ONLY_B)
        self.assertEqual(told, [[4, 1, 2, 3, 0, 2, 4, 0, 3, 0, 1, 4, 0], [2, 0, 1], [1, 1], [1]])
        told = knot(begin(3), ONLY_A, ONLY_B, BOTH, NOTHING)
        self.assertEqual(told, [[4, 0, 0, 4, 1, 2, 4, 1, 3, 0, 0, 3, 2], [2, 0, 1], [1, 1], [1]])

    def test_each_two_of_three_alike(self):
        told = knot(begin(2), rule(2, 0, 0, 1), rule(3, 0, 0, 1), rule(1, 0, 0, 1))
        self.assertEqual(told, [[3, 0, 0, 3, 0, 2, 0, 0, 2, 3], [1, 0], [1, 1], [1]])

    def test_of_the_last_substance(self):
        told = knot(begin(4), rule(0, 0, 1, 1, 0, 0, 2, 0), rule(0, 0, 1, 0, 0, 0, 0, 1))
        self.assertEqual(told[:2], [[1, 3, 0, 2], [1, 3]])

    def test_not_alike_in_two_substances(self):
        # A+B and nothing don't stay, and one row is hidden.
        told = knot(begin(2), rule(1, 1, 1, 0), rule(0, 0, 0, 1))
        self.assertEqual(told, [[0], [0], [2, 1, 3], [1]])

    def test_none_if_one_of_the_two_stays(self):
        # A and A+3B are alike to both that don't stay but for B, and never taken.
        told = knot(begin(2), rule(1, 1, 1, 0), rule(1, 2, 1, 3))
        self.assertEqual(told, [[1, 1, 2, 0], [1, 1], [2, 1, 3], [1]])

    def test_none_if_none_is_hidden(self):
        # A and nothing don't stay, and are alike but for A.
        told = knot(begin(2), rule(1, 0, 1, 1), rule(0, 0, 1, 0))
        self.assertEqual(told, [[0], [0], [1, 1], [0]])

    def test_none_if_more_than_one_is_hidden(self):
        told = knot(begin(1), rule(0, 1), rule(1, 2), rule(2, 3))
        self.assertEqual(told, [[0], [0], [1, 3], [2]])

    def test_rules_taken_out_and_put_in(self):
        told = ask(*SWITCH, PAIRS, rule(0, 2, 1, 1), PAIRS, rule(1, 0, 0, 1), PAIRS, unrule(2), PAIRS)
        self.assertEqual([told[k] for k in (3, 5, 7, 9)], [[1, 0, 0, 2], [0], [0], [0]])
        told = ask(*SWITCH, rule(0, 2, 1, 1), unrule(2), PAIRS)
        self.assertEqual(told[5], [1, 0, 0, 2])


class Ends(unittest.TestCase):
    def ends(self, *calls):
        told = knot(*calls)[2]
        self.assertEqual(told[0], len(told) - 1)
        return told[1:]

    def test_round_and_back(self):
        self.assertEqual(self.ends(begin(1), rule(0, 1), rule(1, 2), rule(2, 0)), [0, 1, 2])

    def test_round_with_a_way_out(self):
        self.assertEqual(self.ends(begin(1), rule(0, 1), rule(1, 2), rule(2, 0), rule(1, 3)), [3])

    def test_into_a_round(self):
        self.assertEqual(self.ends(begin(1), rule(0, 1), rule(1, 2), rule(2, 1)), [1, 2])

    def test_two_ends_in_one_class(self):
        self.assertEqual(self.ends(begin(1), rule(1, 0), rule(1, 2), rule(2, 3), rule(3, 2)), [1, 2, 3])

    def test_one_class_stays_and_another_does_not(self):
        self.assertEqual(self.ends(begin(1), rule(3, 2), rule(0, 1), rule(1, 0)), [1, 2, 3])

    def test_a_long_way_told_from_its_end(self):
        far = [(k // 4, k % 4) for k in range(9)]
        way = [rule(*far[k], *far[k + 1]) for k in reversed(range(8))]
        # The mixtures: 0 the last but one, 1 the last one, then one behind another to the first one.
        self.assertEqual(self.ends(begin(2), *way), [1])
        round_again = way[1:] + [rule(*far[7], *far[0])]
        self.assertEqual(self.ends(begin(2), *round_again), [0, 1, 2, 3, 4, 5, 6, 7])


class Hides(unittest.TestCase):
    def hides(self, *calls):
        told = knot(*calls)[3]
        self.assertEqual(len(told), 1)
        return told[0]

    def test_none_one_and_more(self):
        self.assertEqual(self.hides(begin(1), rule(0, 1)), 0)
        self.assertEqual(self.hides(begin(1), rule(0, 1), rule(1, 2)), 1)
        self.assertEqual(self.hides(begin(1), rule(0, 1), rule(1, 2), rule(2, 3)), 2)

    def test_by_classes(self):
        # The same four mixtures, in two classes and in one.
        self.assertEqual(self.hides(begin(1), rule(0, 1), rule(2, 3)), 1)
        self.assertEqual(self.hides(begin(1), rule(0, 1), rule(2, 3), rule(1, 3)), 2)

    def test_a_class_by_rules_taken_backwards(self):
        self.assertEqual(self.hides(begin(1), rule(0, 1), rule(2, 1)), 1)
        self.assertEqual(self.hides(begin(1), rule(1, 0), rule(1, 2)), 1)
        # 0 to 1, 2 to 1, 2 to 3: from the first one to the last one there's no way but forwards and backwards.
        self.assertEqual(self.hides(begin(1), rule(0, 1), rule(2, 3), rule(2, 1)), 2)

    def test_more_rules_between_the_same_mixtures(self):
        told = self.hides(begin(1), rule(0, 1), rule(1, 0), rule(1, 2), rule(2, 1), rule(0, 2), rule(2, 0))
        self.assertEqual(told, 1)

    def test_substances_that_none_has(self):
        self.assertEqual(self.hides(begin(4), rule(0, 1, 0, 0, 0, 2, 0, 0), rule(0, 2, 0, 0, 0, 3, 0, 0)), 1)

    def test_substances_that_tell_the_same(self):
        self.assertEqual(self.hides(begin(2), rule(0, 0, 1, 1), rule(1, 1, 2, 2), rule(2, 2, 3, 3)), 2)
        self.assertEqual(self.hides(begin(2), rule(0, 0, 1, 0), rule(1, 0, 0, 1), rule(0, 1, 1, 1)), 1)

    def test_as_many_as_can_be(self):
        # Sixteen mixtures in eight classes, and nine in one.
        every = [(k // 4, k % 4) for k in range(16)]
        apart = [rule(*every[k], *every[k + 1]) for k in range(0, 16, 2)]
        self.assertEqual(self.hides(begin(2), *apart), 7)
        apart = [rule(*every[k], *every[15 - k]) for k in range(8)]
        self.assertEqual(self.hides(begin(2), *apart), 6)
        joined = [rule(*every[k], *every[k + 1]) for k in range(8)]
        self.assertEqual(self.hides(begin(2), *joined), 6)


if __name__ == "__main__":
    unittest.main()
