"""What's so at a point: the weights of mixtures, if it's steady, and if the levels are met.

The amounts are a list of fractions: how much is there of each substance.
"""

from samelevels.fraction import ONE, ZERO, lowest, plus, power, times
from samelevels.taken import level_of

MOST_DIVISOR = 60
MOST_NUMBER = 1000


def makes_point(row, substances):
    if len(row) != 1 + substances:
        return False
    if row[0] < 1 or row[0] > MOST_DIVISOR:
        return False
    for number in row[1:]:
        if number < 1 or number > MOST_NUMBER:
            return False
    return True


def amounts_at(row):
    return [lowest(number, row[0]) for number in row[1:]]


def weight_of(mixture, amounts):
    weight = ONE
    for s in range(len(mixture)):
        weight = times(weight, power(amounts[s], mixture[s]))
    return weight


def change_of(rules, amounts, s):
    total = ZERO
    for rule in rules:
        gain = rule[1][s] - rule[0][s]
        flow = times(rule[2], weight_of(rule[0], amounts))
        total = plus(total, times(flow, (gain, 1)))
    return total


def is_steady(rules, amounts):
    for s in range(len(amounts)):
        if change_of(rules, amounts, s) != ZERO:
            return False
    return True


def is_met(rules, amounts):
    for s in range(len(amounts)):
        level = level_of(rules, len(amounts), s)
        if level is not None and power(amounts[s], level[0]) != level[1]:
            return False
    return True
