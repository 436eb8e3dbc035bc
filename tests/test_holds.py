"""What holds, over many objects that are made so that some point is steady."""

import itertools
import random
import unittest
from fractions import Fraction

from calling import ENDS, HIDES, LEFTS, PAIRS, RELATIONS, SAME, level, met, ratio, steady, weight
from samelevels.mixtures import answers
from sums import asked, drawn, fractions_told, setting, steady_at, weight_at

MOST = 3
AMOUNTS = [Fraction(1, 2), Fraction(1), Fraction(3, 2), Fraction(2), Fraction(3)]
POINTS = 24


def some_mixture(source, n):
    most = source.choice((1, 2, 3))
    return tuple(source.randint(0, most) for _ in range(n))


def moved(mixture, change):
    found = tuple(amount + more for amount, more in zip(mixture, change))
    return found if min(found) >= 0 and max(found) <= MOST else None


def there_and_back(source, n):
    left, right = some_mixture(source, n), some_mixture(source, n)
    return [(left, right, 1), (right, left, 1)]


def round_and_round(source, n):
    first, second, third = (some_mixture(source, n) for _ in range(3))
    return [(first, second, 1), (second, third, 1), (third, first, 1)]


def across(source, n):
    # What one rule brings another one takes, from a mixture that's alike but for one substance.
    left = some_mixture(source, n)
    other = list(left)
    other[source.randrange(n)] = source.randint(0, MOST)
    change = [source.randint(-1, 1) for _ in range(n)]
    often = source.choice((1, 1, 2))
    return [
        (left, moved(left, change), often),
        (tuple(other), moved(other, [-often * more for more in change]), 1)]


def drawn_groups(source):
    # Groups of rules with how much flows by each, so that in each group nothing changes altogether.
    while True:
        n = source.randint(1, 4)
        kinds = [source.choice((across, across, there_and_back, round_and_round)) for _ in range(source.randint(1, 3))]
        groups = [kind(source, n) for kind in kinds]
        flat = [part for group in groups for part in group]
        rules = {part[:2] for part in flat}
        if all(left != right and right is not None for left, right in rules) and len(rules) <= 8:
            return n, groups


def rules_steady_at(source, groups, amounts):
    # The speeds by which the groups' flows are there at this point; None if one can't be told.
    flows = {}
    for group in groups:
        factor = source.randint(1, 4)
        for left, right, often in group:
            flows[left, right] = flows.get((left, right), 0) + factor * often
    rules = []
    for (left, right), flow in flows.items():
        told = flow / weight_at(left, amounts)
        if told.numerator > 300 or told.denominator > 300:
            return None
        rules.append(((left, right), (told.numerator, told.denominator)))
    return rules


def row_of(amounts):
    return [4] + [int(amount * 4) for amount in amounts]


def points_near(source, amounts):
    # The point itself, and points that have some of its amounts.
    choices = [[amount, amount, amount / 2, amount * 2, amount * 3] for amount in amounts]
    every = list(dict.fromkeys(itertools.product(*choices)))
    few = source.sample(every, min(POINTS, len(every)))
    return [tuple(amounts)] + [point for point in few if point != tuple(amounts)]


def mixtures_of(rules):
    return list(dict.fromkeys(mixture for both, _ in rules for mixture in both))


def levels_of(n, rules):
    return asked(n, rules, [level(s) for s in range(n)])


class Holds(unittest.TestCase):
    def setUp(self):
        source = random.Random(20261118)
        self.cases = []
        while len(self.cases) < 300:
            n, groups = drawn_groups(source)
            amounts = [source.choice(AMOUNTS) for _ in range(n)]
            rules = rules_steady_at(source, groups, amounts)
            if rules is not None:
                self.cases.append((n, groups, rules, points_near(source, amounts)))

    def steady_points(self, n, rules, points):
        told = asked(n, rules, [steady(*row_of(point)) for point in points])
        self.assertEqual(told, [[int(steady_at(rules, point))] for point in points])
        return [point for point, answer in zip(points, told) if answer == [1]]

    def test_the_points_are_steady(self):
        steadies = 0
        for n, _, rules, points in self.cases:
            found = self.steady_points(n, rules, points)
            self.assertEqual(found[:1], points[:1])
            steadies += len(found) > 1
        self.assertGreater(steadies, 50)

    def test_steady_just_if_all_relations_come_to_nothing(self):
        seen = {}
        for n, _, rules, points in self.cases:
            lefts, told = asked(n, rules, [LEFTS, RELATIONS])
            taken = lefts[1:]
            parts = fractions_told(told[1:])
            rows = [parts[k * len(taken):(k + 1) * len(taken)] for k in range(told[0])]
            for point in points[:5]:
                row = row_of(point)
                answer = asked(n, rules, [steady(*row)] + [weight(i, *row) for i in taken])
                weights = [Fraction(*one[1:]) for one in answer[1:]]
                nothing = all(sum(x * y for x, y in zip(relation, weights)) == 0 for relation in rows)
                self.assertEqual(answer[0], [int(nothing)], (rules, point))
                seen[nothing] = seen.get(nothing, 0) + 1
        self.assertGreater(min(seen[True], seen[False]), 100)

    def test_the_one_weight_is_the_ratio_times_the_other(self):
        ratios = 0
        for n, _, rules, points in self.cases:
            mixtures = mixtures_of(rules)
            taken = asked(n, rules, [LEFTS])[0][1:]
            every = [(i, j) for i in taken for j in taken if i != j]
            told = asked(n, rules, [ratio(i, j) for i, j in every])
            for point in self.steady_points(n, rules, points):
                for (i, j), answer in zip(every, told):
                    if answer != [-33]:
                        first, other = weight_at(mixtures[i], point), weight_at(mixtures[j], point)
                        self.assertEqual(first, Fraction(*answer[1:]) * other)
                        ratios += 1
        self.assertGreater(ratios, 500)

    def test_each_level_that_is_told_is_met(self):
        seen = {}
        for n, _, rules, points in self.cases:
            levels = levels_of(n, rules)
            found = self.steady_points(n, rules, points)
            for answer in asked(n, rules, [met(*row_of(point)) for point in found]):
                self.assertEqual(answer, [1], rules)
            for point in found:
                for amount, told in zip(point, levels):
                    seen[told[0]] = seen.get(told[0], 0) + 1
                    if told != [-33]:
                        self.assertEqual(amount ** told[0], Fraction(*told[1:]), rules)
        self.assertEqual(sorted(seen), [-33, 1, 2, 3])

    def test_of_a_substance_in_a_pair_steady_points_have_the_same(self):
        source = random.Random(7)
        compared = 0
        for n, groups, rules, points in self.cases:
            pairs, same = asked(n, rules, [PAIRS, SAME])
            for _ in range(3):
                found = self.steady_points(n, rules, points)
                for s in same[1:]:
                    self.assertEqual({point[s] for point in found}, {points[0][s]}, rules)
                    compared += len(found) > 1
                # Other speeds, of the same rules, at which another point is steady.
                amounts = [source.choice(AMOUNTS) for _ in range(n)]
                others = rules_steady_at(source, groups, amounts)
                if others is not None:
                    rules, points = others, points_near(source, amounts)
                self.assertEqual(asked(n, rules, [PAIRS, SAME]), [pairs, same])
        self.assertGreater(compared, 30)

    def test_the_same_whatever_the_speeds_has_a_level(self):
        paired = 0
        for n, _, rules, points in self.cases:
            levels = levels_of(n, rules)
            for s in asked(n, rules, [SAME])[0][1:]:
                self.assertNotEqual(levels[s], [-33], rules)
                self.assertEqual(points[0][s] ** levels[s][0], Fraction(*levels[s][1:]))
                paired += 1
        self.assertGreater(paired, 20)

    def test_levels_stay_if_all_speeds_are_so_many_times_as_great(self):
        source = random.Random(11)
        others = [drawn(source) for _ in range(50)]
        for n, rules in [(n, rules) for n, _, rules, _ in self.cases] + others:
            if all(max(told) <= 333 for _, told in rules):
                levels = levels_of(n, rules)
                for up, down in ((3, 1), (1, 3), (2, 3)):
                    scaled = [(both, (a * up, b * down)) for both, (a, b) in rules]
                    self.assertEqual(levels_of(n, scaled), levels)

    def test_list_is_as_it_was_and_a_second_time_gives_the_same(self):
        for n, _, rules, points in self.cases:
            calls = setting(n, rules) + [LEFTS, RELATIONS, PAIRS, SAME, ENDS, HIDES] + [level(s) for s in range(n)]
            for point in points[:3]:
                row = row_of(point)
                calls += [weight(0, *row), steady(*row), met(*row)]
            handed = [number for call in calls for number in call]
            kept = list(handed)
            first = answers(handed)
            self.assertEqual(handed, kept)
            self.assertEqual(answers(handed), first)


if __name__ == "__main__":
    unittest.main()
