"""Many drawn sets of rules, against sums done another way, straight from the document's words."""

import random
import unittest
from fractions import Fraction

from calling import (
    ENDS, HIDES, LEFTS, PAIRS, RELATIONS, SAME, ifspeed, level, met, ratio, ruleis, steady, weight)
from sums import asked, drawn, fractions_told, made_of, met_at, rank, steady_at, weight_at


class Expected:
    def __init__(self, n, rules):
        self.n = n
        self.rules = rules
        self.mixtures = list(dict.fromkeys(mixture for both, _ in rules for mixture in both))
        lefts = {both[0] for both, _ in rules}
        self.taken = [i for i, mixture in enumerate(self.mixtures) if mixture in lefts]
        self.rows = [
            [sum((Fraction(*told) * (both[1][s] - both[0][s])
                  for both, told in rules if both[0] == self.mixtures[i]), Fraction(0)) for i in self.taken]
            for s in range(n)]

    def reach(self, both_ways):
        # Which mixtures come to which, by ever longer ways.
        size = len(self.mixtures)
        reach = [[i == j for j in range(size)] for i in range(size)]
        for (left, right), _ in self.rules:
            i, j = self.mixtures.index(left), self.mixtures.index(right)
            reach[i][j] = True
            reach[j][i] = reach[j][i] or both_ways
        for k in range(size):
            for i in range(size):
                for j in range(size):
                    reach[i][j] = reach[i][j] or reach[i][k] and reach[k][j]
        return reach

    def ends(self):
        reach = self.reach(False)
        every = range(len(self.mixtures))
        return [i for i in every if all(reach[j][i] for j in every if reach[i][j])]

    def hides(self):
        # As many as there are mixtures, less the classes, less the changes by rules that aren't made of others.
        classes = {tuple(row) for row in self.reach(True)}
        changes = [[Fraction(x - y) for x, y in zip(right, left)] for (left, right), _ in self.rules]
        return len(self.mixtures) - len(classes) - rank(changes)

    def pairs(self):
        ends = self.ends()
        leaving = [i for i in range(len(self.mixtures)) if i not in ends]
        found = []
        for i in leaving:
            for j in leaving:
                more = [x - y for x, y in zip(self.mixtures[i], self.mixtures[j])]
                if max(more) > 0 and more.count(0) == self.n - 1:
                    found.append((more.index(max(more)), i, j))
        return found if self.hides() == 1 else []

    def unit(self, i):
        return [Fraction(int(k == i)) for k in self.taken]

    def always_nothing(self, i):
        return made_of(self.rows, self.unit(i))

    def holds(self, i, j, q):
        # The first weight less q times the second comes to nothing by what's brought.
        return made_of(self.rows, [x - q * y for x, y in zip(self.unit(i), self.unit(j))])

    def bound(self, i, j):
        # With j's weight held at nothing i's is nothing, too, and the other way round.
        return made_of(self.rows + [self.unit(j)], self.unit(i)) and made_of(self.rows + [self.unit(i)], self.unit(j))

    def below_nothing(self, i, j):
        # Rows added up so that only these two stand: with both numbers above 0 or both below, the ratio is below 0.
        without = [[part for k, part in zip(self.taken, row) if k not in (i, j)] for row in self.rows]
        firsts = [row[self.taken.index(i)] for row in self.rows]
        seconds = [row[self.taken.index(j)] for row in self.rows]
        for mix in ways_to_nothing(without):
            first = sum(x * y for x, y in zip(mix, firsts))
            second = sum(x * y for x, y in zip(mix, seconds))
            if first and second:
                return first * second > 0
        return False


def ways_to_nothing(rows):
    # The ways to add these rows up to nothing: all such ways are made of them.
    width = len(rows[0])
    kept = [list(row) + [Fraction(int(k == m)) for m in range(len(rows))] for k, row in enumerate(rows)]
    for column in range(width):
        lead = next((row for row in kept if row[column]), None)
        if lead is not None:
            kept.remove(lead)
            kept = [[x - row[column] / lead[column] * y for x, y in zip(row, lead)] for row in kept]
    return [row[width:] for row in kept]


class BySums(unittest.TestCase):
    def setUp(self):
        source = random.Random(20261118)
        self.cases = [drawn(source) for _ in range(250)]

    def assert_lowest(self, numbers):
        for k in range(0, len(numbers), 2):
            told = Fraction(numbers[k], numbers[k + 1])
            self.assertEqual([told.numerator, told.denominator], numbers[k:k + 2])

    def test_lefts_and_ruleis(self):
        for n, rules in self.cases:
            expected = Expected(n, rules)
            told = asked(n, rules, [LEFTS] + [ruleis(j) for j in range(len(rules))])
            self.assertEqual(told[0], [len(expected.taken), *expected.taken])
            for (both, given), answer in zip(rules, told[1:]):
                lowest = Fraction(*given)
                self.assertEqual(answer, [n, *both[0], *both[1], lowest.numerator, lowest.denominator])

    def test_relations(self):
        for n, rules in self.cases:
            expected = Expected(n, rules)
            told = asked(n, rules, [RELATIONS])[0]
            width = len(expected.taken)
            self.assertEqual(len(told), 1 + told[0] * width * 2)
            self.assert_lowest(told[1:])
            parts = fractions_told(told[1:])
            rows = [parts[k * width:(k + 1) * width] for k in range(told[0])]
            self.assertEqual(len(rows), rank(expected.rows))
            leads = [next(k for k, part in enumerate(row) if part) for row in rows]
            self.assertEqual(leads, sorted(set(leads)))
            for row in rows:
                self.assertTrue(made_of(expected.rows, row))
            for m, lead in enumerate(leads):
                self.assertEqual([row[lead] for row in rows], [int(k == m) for k in range(len(rows))])

    def ratio_found(self, expected, i, j, told):
        if told == [-33]:
            nothing = expected.always_nothing(i) or expected.always_nothing(j)
            self.assertTrue(nothing or not expected.bound(i, j) or expected.below_nothing(i, j))
            return None
        self.assertEqual(told[0], 0)
        self.assert_lowest(told[1:])
        found = Fraction(*told[1:])
        self.assertGreater(found, 0)
        self.assertTrue(expected.holds(i, j, found))
        self.assertFalse(expected.always_nothing(i) or expected.always_nothing(j))
        return found

    def test_ratios_and_levels(self):
        seen = {}
        for n, rules in self.cases:
            expected = Expected(n, rules)
            every = [(i, j) for i in range(len(expected.mixtures) + 1) for j in range(len(expected.mixtures) + 1)]
            ratios = {}
            for (i, j), told in zip(every, asked(n, rules, [ratio(i, j) for i, j in every])):
                if i not in expected.taken or j not in expected.taken:
                    self.assertEqual(told, [-2])
                elif i == j:
                    self.assertEqual(told, [-33] if expected.always_nothing(i) else [0, 1, 1])
                else:
                    ratios[i, j] = self.ratio_found(expected, i, j, told)
            for s in range(n):
                told = asked(n, rules, [level(s)])[0]
                self.assertEqual(told, self.level_expected(expected, ratios, s))
                seen[told[0]] = seen.get(told[0], 0) + 1
        # The draw reaches each kind of answer, or these tests would say little.
        self.assertEqual(sorted(seen), [-33, 1, 2, 3])

    def level_expected(self, expected, ratios, s):
        for i, j in sorted(ratios):
            first = expected.mixtures[i]
            other = expected.mixtures[j]
            alike = first[:s] + first[s + 1:] == other[:s] + other[s + 1:]
            if alike and first[s] > other[s] and ratios[i, j] is not None:
                return [first[s] - other[s], ratios[i, j].numerator, ratios[i, j].denominator]
        return [-33]

    def test_knots(self):
        # More of them than elsewhere, as pairs are rare.
        source = random.Random(5)
        hidden = {}
        paired = 0
        for n, rules in self.cases + [drawn(source) for _ in range(750)]:
            expected = Expected(n, rules)
            pairs, same, ends, hides = asked(n, rules, [PAIRS, SAME, ENDS, HIDES])
            self.assertEqual(hides, [expected.hides()])
            self.assertEqual(ends, [len(expected.ends()), *expected.ends()])
            found = expected.pairs()
            self.assertEqual(pairs, [len(found)] + [number for pair in found for number in pair])
            substances = sorted({pair[0] for pair in found})
            self.assertEqual(same, [len(substances), *substances])
            hidden[hides[0]] = hidden.get(hides[0], 0) + 1
            paired += pairs[0] > 1
        self.assertLessEqual({0, 1, 2, 3}, set(hidden))
        self.assertGreater(paired, 5)

    def test_ifspeed_is_level_at_that_speed(self):
        told_otherwise = 0
        for n, rules in self.cases:
            for j, (both, _) in enumerate(rules):
                other = rules[:j] + [(both, (7, 3))] + rules[j + 1:]
                levels = [level(s) for s in range(n)]
                now = asked(n, rules, [ifspeed(j, 7, 3, s) for s in range(n)] + levels)
                self.assertEqual(now[:n], asked(n, other, levels))
                self.assertEqual(now[n:], asked(n, rules, levels))
                told_otherwise += now[:n] != now[n:]
        self.assertGreater(told_otherwise, 50)

    def test_points(self):
        source = random.Random(4)
        for n, rules in self.cases:
            divisor = source.choice((1, 2, 60))
            numbers = [source.choice((1, 2, 3, 60, 1000)) for _ in range(n)]
            amounts = [Fraction(number, divisor) for number in numbers]
            row = [divisor, *numbers]
            mixtures = Expected(n, rules).mixtures
            calls = [steady(*row), met(*row)] + [level(s) for s in range(n)]
            told = asked(n, rules, calls + [weight(i, *row) for i in range(len(mixtures) + 1)])
            self.assertEqual(told[0], [int(steady_at(rules, amounts))])
            self.assertEqual(told[1], [int(met_at(told[2:2 + n], amounts))])
            for mixture, answer in zip(mixtures, told[2 + n:]):
                expected = weight_at(mixture, amounts)
                self.assertEqual(answer, [0, expected.numerator, expected.denominator])
            self.assertEqual(told[-1], [-2])


if __name__ == "__main__":
    unittest.main()
