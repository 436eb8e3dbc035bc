"""Many drawn sets of rules, against sums done another way, straight from the document's words."""

import random
import unittest
from fractions import Fraction

from calling import LEFTS, RELATIONS, ask, begin, level, ratio, rule, ruleis, speed


def rank(rows):
    rows = [list(row) for row in rows]
    found = 0
    for column in reversed(range(len(rows[0]) if rows else 0)):
        for k in range(found, len(rows)):
            if rows[k][column]:
                rows[found], rows[k] = rows[k], rows[found]
                for m in range(found + 1, len(rows)):
                    factor = rows[m][column] / rows[found][column]
                    rows[m] = [x - factor * y for x, y in zip(rows[m], rows[found])]
                found += 1
                break
    return found


def made_of(rows, row):
    return rank(rows + [row]) == rank(rows)


def drawn(source):
    n = source.randint(1, 4)
    most = source.choice((1, 1, 2, 3))
    rules = {}
    for _ in range(source.randint(0, 8)):
        left = tuple(source.randint(0, most) for _ in range(n))
        right = list(left)
        for _ in range(source.randint(1, 3)):
            right[source.randrange(n)] = source.randint(0, most)
        if left != tuple(right):
            speed_drawn = (source.choice((1, 2, 3, 1000)), source.choice((1, 2, 7, 999)))
            rules[left, tuple(right)] = speed_drawn
            if source.random() < 0.4 and len(rules) < 8:
                rules[tuple(right), left] = (1, 1)
    return n, list(rules.items())[:8]


class Expected:
    def __init__(self, n, rules):
        self.n = n
        self.rules = rules
        self.mixtures = list(dict.fromkeys(mixture for both, _ in rules for mixture in both))
        lefts = {both[0] for both, _ in rules}
        self.taken = [i for i, mixture in enumerate(self.mixtures) if mixture in lefts]
        self.rows = [
            [sum((Fraction(*told) * (both[1][s] - both[0][s])
                  for both, told in rules if both[0] == self.mixtures[i]), Fraction(0)) for i in self.taken]
            for s in range(n)]

    def unit(self, i):
        return [Fraction(int(k == i)) for k in self.taken]

    def always_nothing(self, i):
        return made_of(self.rows, self.unit(i))

    def holds(self, i, j, q):
        # The first weight less q times the second comes to nothing by what's brought.
        return made_of(self.rows, [x - q * y for x, y in zip(self.unit(i), self.unit(j))])

    def bound(self, i, j):
        # With j's weight held at nothing i's is nothing, too, and the other way round.
        return made_of(self.rows + [self.unit(j)], self.unit(i)) and made_of(self.rows + [self.unit(i)], self.unit(j))

    def below_nothing(self, i, j):
        # Rows added up so that only these two stand: with both numbers above 0 or both below, the ratio is below 0.
        without = [[part for k, part in zip(self.taken, row) if k not in (i, j)] for row in self.rows]
        firsts = [row[self.taken.index(i)] for row in self.rows]
        seconds = [row[self.taken.index(j)] for row in self.rows]
        for mix in ways_to_nothing(without):
            first = sum(x * y for x, y in zip(mix, firsts))
            second = sum(x * y for x, y in zip(mix, seconds))
            if first and second:
                return first * second > 0
        return False


def ways_to_nothing(rows):
    # The ways to add these rows up to nothing: all such ways are made of them.
    width = len(rows[0])
    kept = [list(row) + [Fraction(int(k == m)) for m in range(len(rows))] for k, row in enumerate(rows)]
    for column in range(width):
        lead = next((row for row in kept if row[column]), None)
        if lead is not None:
            kept.remove(lead)
            kept = [[x - row[column] / lead[column] * y for x, y in zip(row, lead)] for row in kept]
    return [row[width:] for row in kept]


def fractions_told(numbers):
    return [Fraction(numbers[k], numbers[k + 1]) for k in range(0, len(numbers), 2)]


def setting(n, rules):
    calls = [begin(n)]
    for both, _ in rules:
        calls.append(rule(*both[0], *both[1]))
    for j, (_, told) in enumerate(rules):
        calls.append(speed(j, *told))
    return calls


class BySums(unittest.TestCase):
    def setUp(self):
        source = random.Random(20261118)
        self.cases = [drawn(source) for _ in range(250)]

    def asked(self, n, rules, calls):
        told = ask(*setting(n, rules), *calls)
        self.assertEqual(told[:1 + len(rules)], [[0]] + [[j] for j in range(len(rules))])
        return told[1 + 2 * len(rules):]

    def assert_lowest(self, numbers):
        for k in range(0, len(numbers), 2):
            told = Fraction(numbers[k], numbers[k + 1])
            self.assertEqual([told.numerator, told.denominator], numbers[k:k + 2])

    def test_lefts_and_ruleis(self):
        for n, rules in self.cases:
            expected = Expected(n, rules)
            told = self.asked(n, rules, [LEFTS] + [ruleis(j) for j in range(len(rules))])
            self.assertEqual(told[0], [len(expected.taken), *expected.taken])
            for (both, given), answer in zip(rules, told[1:]):
                lowest = Fraction(*given)
                self.assertEqual(answer, [n, *both[0], *both[1], lowest.numerator, lowest.denominator])

    def test_relations(self):
        for n, rules in self.cases:
            expected = Expected(n, rules)
            told = self.asked(n, rules, [RELATIONS])[0]
            width = len(expected.taken)
            self.assertEqual(len(told), 1 + told[0] * width * 2)
            self.assert_lowest(told[1:])
            parts = fractions_told(told[1:])
            rows = [parts[k * width:(k + 1) * width] for k in range(told[0])]
            self.assertEqual(len(rows), rank(expected.rows))
            leads = [next(k for k, part in enumerate(row) if part) for row in rows]
            self.assertEqual(leads, sorted(set(leads)))
            for row in rows:
                self.assertTrue(made_of(expected.rows, row))
            for m, lead in enumerate(leads):
                self.assertEqual([row[lead] for row in rows], [int(k == m) for k in range(len(rows))])

    def ratio_found(self, expected, i, j, told):
        if told == [-33]:
            nothing = expected.always_nothing(i) or expected.always_nothing(j)
            self.assertTrue(nothing or not expected.bound(i, j) or expected.below_nothing(i, j))
            return None
        self.assertEqual(told[0], 0)
        self.assert_lowest(told[1:])
        found = Fraction(*told[1:])
        self.assertGreater(found, 0)
        self.assertTrue(expected.holds(i, j, found))
        self.assertFalse(expected.always_nothing(i) or expected.always_nothing(j))
        return found

    def test_ratios_and_levels(self):
        seen = {}
        for n, rules in self.cases:
            expected = Expected(n, rules)
            every = [(i, j) for i in range(len(expected.mixtures) + 1) for j in range(len(expected.mixtures) + 1)]
            ratios = {}
            for i, j in every:
                told = self.asked(n, rules, [ratio(i, j)])[0]
                if i not in expected.taken or j not in expected.taken:
                    self.assertEqual(told, [-2])
                elif i == j:
                    self.assertEqual(told, [-33] if expected.always_nothing(i) else [0, 1, 1])
                else:
                    ratios[i, j] = self.ratio_found(expected, i, j, told)
            for s in range(n):
                told = self.asked(n, rules, [level(s)])[0]
                self.assertEqual(told, self.level_expected(expected, ratios, s))
                seen[told[0]] = seen.get(told[0], 0) + 1
        # The draw reaches each kind of answer, or these tests would say little.
        self.assertEqual(sorted(seen), [-33, 1, 2, 3])

    def level_expected(self, expected, ratios, s):
        for i, j in sorted(ratios):
            first = expected.mixtures[i]
            other = expected.mixtures[j]
            alike = first[:s] + first[s + 1:] == other[:s] + other[s + 1:]
            if alike and first[s] > other[s] and ratios[i, j] is not None:
                return [first[s] - other[s], ratios[i, j].numerator, ratios[i, j].denominator]
        return [-33]


if __name__ == "__main__":
    unittest.main()
