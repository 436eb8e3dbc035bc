"""How the mixtures hang together, whatever the speeds: which stay, how many rows are hidden, and the pairs.

A step is a tuple of two mixtures: where it goes from, where it goes to.
"""

from samelevels.fraction import ONE, ZERO
from samelevels.relation import relations_among
from samelevels.taken import mixtures_of, more_by


def steps_forwards(rules):
    return [(rule[0], rule[1]) for rule in rules]


def steps_both_ways(rules):
    return steps_forwards(rules) + [(rule[1], rule[0]) for rule in rules]


def all_come_to(steps, start):
    found = [start]
    place = 0
    while place < len(found):
        for step in steps:
            if step[0] == found[place] and step[1] not in found:
                found.append(step[1])
        place = place + 1
    return found


def stays(rules, mixture):
    steps = steps_forwards(rules)
    for other in all_come_to(steps, mixture):
        if mixture not in all_come_to(steps, other):
            return False
    return True


def numbers_staying(rules):
    mixtures = mixtures_of(rules)
    return [i for i in range(len(mixtures)) if stays(rules, mixtures[i])]


def classes_of(rules):
    steps = steps_both_ways(rules)
    classes = []
    placed = []
    for mixture in mixtures_of(rules):
        if mixture not in placed:
            members = all_come_to(steps, mixture)
            classes.append(members)
            placed.extend(members)
    return classes


def how_many_hidden(rules, substances):
    # A hidden row brings each of these rows to nothing, so each of them that isn't made of others leaves one less.
    mixtures = mixtures_of(rules)
    rows = []
    for s in range(substances):
        rows.append([(mixture[s], 1) for mixture in mixtures])
    for members in classes_of(rules):
        rows.append([ONE if mixture in members else ZERO for mixture in mixtures])
    return len(mixtures) - len(relations_among(rows, len(mixtures)))


def more_of(first, other):
    # The one substance of which the first has more, where they're alike but for it; None where they aren't.
    for s in range(len(first)):
        if more_by(first, other, s) > 0:
            return s
    return None


def pairs_of(rules, substances):
    if how_many_hidden(rules, substances) != 1:
        return []
    mixtures = mixtures_of(rules)
    staying = numbers_staying(rules)
    leaving = [i for i in range(len(mixtures)) if i not in staying]
    pairs = []
    for i in leaving:
        for j in leaving:
            s = more_of(mixtures[i], mixtures[j])
            if s is not None:
                pairs.append((s, i, j))
    return pairs


def substances_paired(rules, substances):
    paired = [pair[0] for pair in pairs_of(rules, substances)]
    return [s for s in range(substances) if s in paired]
