"""The calls, one behind another in one list, and the answers to them."""

from samelevels.vessel import NOT_BEGUN, Vessel

BEGIN = 0
RULE = 1
UNRULE = 2
RULEIS = 3
SPEED = 4
LEFTS = 5
RELATIONS = 6
RATIO = 7
LEVEL = 8
IFSPEED = 9
PAIRS = 10
SAME = 11
ENDS = 12
HIDES = 13
WEIGHT = 14
STEADY = 15
MET = 16

# By a call's number: how many whole numbers stand behind it, ahead of its row.
NUMBERS = (1, 0, 1, 1, 3, 0, 0, 2, 1, 4, 0, 0, 0, 0, 1, 0, 0)
# The calls that have a row: rule, weight, steady, met.
WITH_ROW = (1, 14, 15, 16)


def numbers_at(calls, place):
    start = place + 1
    return calls[start:start + NUMBERS[calls[place]]]


def row_at(calls, place):
    if calls[place] not in WITH_ROW:
        return []
    start = place + 1 + NUMBERS[calls[place]]
    return calls[start + 1:start + 1 + calls[start]]


def place_behind(calls, place):
    end = place + 1 + NUMBERS[calls[place]]
    if calls[place] in WITH_ROW:
        end = end + 1 + calls[end]
    return end


def answer_on_rules(vessel, call, numbers, row):
    if call == RULE:
        return vessel.rule(row)
    if call == UNRULE:
        return vessel.unrule(numbers[0])
    if call == RULEIS:
        return vessel.ruleis(numbers[0])
    return vessel.speed(numbers[0], numbers[1], numbers[2])


def answer_by_sums(vessel, call, numbers):
    if call == LEFTS:
        return vessel.lefts()
    if call == RELATIONS:
        return vessel.relations()
    if call == RATIO:
        return vessel.ratio(numbers[0], numbers[1])
    if call == LEVEL:
        return vessel.level(numbers[0])
    return vessel.ifspeed(numbers[0], numbers[1], numbers[2], numbers[3])


def answer_by_knot(vessel, call):
    if call == PAIRS:
        return vessel.pairs()
    if call == SAME:
        return vessel.same()
    if call == ENDS:
        return vessel.ends()
    return vessel.hides()


def answer_at_point(vessel, call, numbers, row):
    if call == WEIGHT:
        return vessel.weight(numbers[0], row)
    if call == STEADY:
        return vessel.steady(row)
    return vessel.met(row)


def answer(vessel, call, numbers, row):
    if call == BEGIN:
        return vessel.begin(numbers[0])
    if not vessel.has_begun():
        return [NOT_BEGUN]
    if call <= SPEED:
        return answer_on_rules(vessel, call, numbers, row)
    if call <= IFSPEED:
        return answer_by_sums(vessel, call, numbers)
    if call <= HIDES:
        return answer_by_knot(vessel, call)
    return answer_at_point(vessel, call, numbers, row)


def answers(calls):
    vessel = Vessel()
    told = []
    place = 0
    while place < len(calls):
        found = answer(vessel, calls[place], numbers_at(calls, place), row_at(calls, place))
        told.append(len(found))
        told.extend(found)
        place = place_behind(calls, place)
    return told
