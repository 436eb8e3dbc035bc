"""The object that the calls go to: its substances and its rules, and what it answers."""

from samelevels.fraction import ONE, lowest
from samelevels.knot import how_many_hidden, numbers_staying, pairs_of, substances_paired
from samelevels.point import amounts_at, is_met, is_steady, makes_point, weight_of
from samelevels.taken import level_of, mixtures_of, numbers_taken, ratio_of, relations_of

NO_SUCH = -2
NOT_BEGUN = -11
RULE_IS_THERE = -17
WRONG = -22
TOO_MANY_RULES = -28
NOT_TOLD = -33

MOST_SUBSTANCES = 4
MOST_OF_ONE = 3
MOST_RULES = 8
MOST_IN_SPEED = 1000


def makes_rule(row, substances):
    if len(row) != 2 * substances:
        return False
    for amount in row:
        if amount > MOST_OF_ONE:
            return False
    return row[:substances] != row[substances:]


def makes_speed(a, b):
    return a >= 1 and a <= MOST_IN_SPEED and b >= 1 and b <= MOST_IN_SPEED


def rules_at(rules, j, speed):
    # Another list, as a speed that's only asked for isn't the rule's.
    changed = list(rules)
    changed[j] = (rules[j][0], rules[j][1], speed)
    return changed


def level_told(rules, substances, s):
    found = level_of(rules, substances, s)
    if found is None:
        return [NOT_TOLD]
    return [found[0]] + list(found[1])


class Vessel:
    # Each call's method answers a list of whole numbers; a refusal is one number below 0.

    def __init__(self):
        # No substances stands for: not begun yet, as a begin that's answered 0 brings at least one.
        self.substances = 0
        self.rules = []

    def has_begun(self):
        return self.substances > 0

    def has_rule(self, left, right):
        for rule in self.rules:
            if rule[0] == left and rule[1] == right:
                return True
        return False

    def begin(self, n):
        if n < 1 or n > MOST_SUBSTANCES:
            return [WRONG]
        self.substances = n
        self.rules = []
        return [0]

    def rule(self, row):
        if not makes_rule(row, self.substances):
            return [WRONG]
        left = tuple(row[:self.substances])
        right = tuple(row[self.substances:])
        if self.has_rule(left, right):
            return [RULE_IS_THERE]
        if len(self.rules) >= MOST_RULES:
            return [TOO_MANY_RULES]
        self.rules.append((left, right, ONE))
        return [len(self.rules) - 1]

    def unrule(self, j):
        if j >= len(self.rules):
            return [NO_SUCH]
        self.rules.pop(j)
        return [len(self.rules)]

    def ruleis(self, j):
        if j >= len(self.rules):
            return [NO_SUCH]
        rule = self.rules[j]
        return [self.substances] + list(rule[0]) + list(rule[1]) + list(rule[2])

    def speed(self, j, a, b):
        if j >= len(self.rules):
            return [NO_SUCH]
        if not makes_speed(a, b):
            return [WRONG]
        self.rules = rules_at(self.rules, j, lowest(a, b))
        return [0]

    def lefts(self):
        numbers = numbers_taken(self.rules)
        return [len(numbers)] + numbers

    def relations(self):
        found = relations_of(self.rules, self.substances)
        told = [len(found)]
        for relation in found:
            for part in relation:
                told.extend(part)
        return told

    def ratio(self, i, j):
        numbers = numbers_taken(self.rules)
        if i not in numbers or j not in numbers:
            return [NO_SUCH]
        found = ratio_of(self.rules, self.substances, i, j)
        if found is None:
            return [NOT_TOLD]
        return [0] + list(found)

    def level(self, s):
        if s >= self.substances:
            return [NO_SUCH]
        return level_told(self.rules, self.substances, s)

    def ifspeed(self, j, a, b, s):
        if j >= len(self.rules) or s >= self.substances:
            return [NO_SUCH]
        if not makes_speed(a, b):
            return [WRONG]
        return level_told(rules_at(self.rules, j, lowest(a, b)), self.substances, s)

    def pairs(self):
        found = pairs_of(self.rules, self.substances)
        told = [len(found)]
        for pair in found:
            told.extend(pair)
        return told

    def same(self):
        found = substances_paired(self.rules, self.substances)
        return [len(found)] + found

    def ends(self):
        numbers = numbers_staying(self.rules)
        return [len(numbers)] + numbers

    def hides(self):
        return [how_many_hidden(self.rules, self.substances)]

    def weight(self, i, row):
        mixtures = mixtures_of(self.rules)
        if i >= len(mixtures):
            return [NO_SUCH]
        if not makes_point(row, self.substances):
            return [WRONG]
        return [0] + list(weight_of(mixtures[i], amounts_at(row)))

    def steady(self, row):
        if not makes_point(row, self.substances):
            return [WRONG]
        return [1 if is_steady(self.rules, amounts_at(row)) else 0]

    def met(self, row):
        if not makes_point(row, self.substances):
            return [WRONG]
        return [1 if is_met(self.rules, amounts_at(row)) else 0]
