"""How the tests write calls down and read answers: each call a list, each answer a list."""

from samelevels.mixtures import answers


def begin(n):
    return [0, n]


def rule(*row):
    return [1, len(row), *row]


def unrule(j):
    return [2, j]


def ruleis(j):
    return [3, j]


def speed(j, a, b):
    return [4, j, a, b]


def ratio(i, j):
    return [7, i, j]


def level(s):
    return [8, s]


def ifspeed(j, a, b, s):
    return [9, j, a, b, s]


def weight(i, *point):
    return [14, i, len(point), *point]


def steady(*point):
    return [15, len(point), *point]


def met(*point):
    return [16, len(point), *point]


LEFTS = [5]
RELATIONS = [6]
PAIRS = [10]
SAME = [11]
ENDS = [12]
HIDES = [13]


def split(told):
    parts = []
    place = 0
    while place < len(told):
        size = told[place]
        part = told[place + 1:place + 1 + size]
        if len(part) != size:
            raise AssertionError(f"an answer is cut short: {told!r}")
        parts.append(part)
        place += 1 + size
    return parts


def ask(*calls):
    handed = [number for call in calls for number in call]
    parts = split(answers(handed))
    if len(parts) != len(calls):
        raise AssertionError(f"{len(calls)} calls, {len(parts)} answers")
    return parts


def ask_last(*calls):
    return ask(*calls)[-1]
