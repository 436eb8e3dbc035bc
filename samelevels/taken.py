"""What a list of rules tells: its mixtures, those taken, what they bring, their ratios and the levels.

A rule is a tuple: the left mixture, the right one, the speed. A mixture is a tuple of whole numbers.
"""

from samelevels.fraction import ZERO, plus, times
from samelevels.relation import ratio_among, relations_among, weights_that_could_be


def mixtures_of(rules):
    mixtures = []
    for rule in rules:
        for mixture in (rule[0], rule[1]):
            if mixture not in mixtures:
                mixtures.append(mixture)
    return mixtures


def numbers_taken(rules):
    mixtures = mixtures_of(rules)
    lefts = [rule[0] for rule in rules]
    return [i for i in range(len(mixtures)) if mixtures[i] in lefts]


def mixtures_taken(rules):
    mixtures = mixtures_of(rules)
    return [mixtures[i] for i in numbers_taken(rules)]


def brought(rules, mixture, s):
    total = ZERO
    for rule in rules:
        if rule[0] == mixture:
            gain = rule[1][s] - rule[0][s]
            total = plus(total, times(rule[2], (gain, 1)))
    return total


def relations_of(rules, substances):
    taken = mixtures_taken(rules)
    rows = []
    for s in range(substances):
        rows.append([brought(rules, mixture, s) for mixture in taken])
    return relations_among(rows, len(taken))


def choices_of(rules, substances):
    relations = relations_of(rules, substances)
    return weights_that_could_be(relations, len(mixtures_taken(rules)))


def ratio_of(rules, substances, i, j):
    # The mixtures are told by their numbers, and both are taken.
    numbers = numbers_taken(rules)
    choices = choices_of(rules, substances)
    return ratio_among(choices, numbers.index(i), numbers.index(j))


def more_by(first, other, s):
    # By how much the first has more of this substance; 0 where they aren't alike but for it.
    for k in range(len(first)):
        if k != s and first[k] != other[k]:
            return 0
    return max(first[s] - other[s], 0)


def level_of(rules, substances, s):
    # The e and the ratio; None if no two mixtures taken tell it.
    taken = mixtures_taken(rules)
    choices = choices_of(rules, substances)
    for i in range(len(taken)):
        for j in range(len(taken)):
            e = more_by(taken[i], taken[j], s)
            if e > 0:
                ratio = ratio_among(choices, i, j)
                if ratio is not None:
                    return (e, ratio)
    return None
