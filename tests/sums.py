"""What the tests over many objects share: drawn sets of rules, and sums over fractions."""

from fractions import Fraction

from calling import ask, begin, rule, speed

# A list holds at most 60 calls, of which a begin, eight rules and their speeds take 17.
CALLS_AT_ONCE = 40


def rank(rows):
    rows = [list(row) for row in rows]
    found = 0
    for column in reversed(range(len(rows[0]) if rows else 0)):
        for k in range(found, len(rows)):
            if rows[k][column]:
                rows[found], rows[k] = rows[k], rows[found]
                for m in range(found + 1, len(rows)):
                    factor = rows[m][column] / rows[found][column]
                    rows[m] = [x - factor * y for x, y in zip(rows[m], rows[found])]
                found += 1
                break
    return found


def made_of(rows, row):
    return rank(rows + [row]) == rank(rows)


def drawn(source):
    n = source.randint(1, 4)
    most = source.choice((1, 1, 2, 3))
    rules = {}
    for _ in range(source.randint(0, 8)):
        left = tuple(source.randint(0, most) for _ in range(n))
        right = list(left)
        for _ in range(source.randint(1, 3)):
            right[source.randrange(n)] = source.randint(0, most)
        if left != tuple(right):
            speed_drawn = (source.choice((1, 2, 3, 1000)), source.choice((1, 2, 7, 999)))
            rules[left, tuple(right)] = speed_drawn
            if source.random() < 0.4 and len(rules) < 8:
                rules[tuple(right), left] = (1, 1)
    return n, list(rules.items())[:8]


def fractions_told(numbers):
    return [Fraction(numbers[k], numbers[k + 1]) for k in range(0, len(numbers), 2)]


def setting(n, rules):
    calls = [begin(n)]
    for both, _ in rules:
        calls.append(rule(*both[0], *both[1]))
    for j, (_, told) in enumerate(rules):
        calls.append(speed(j, *told))
    return calls


def asked(n, rules, calls):
    # The answers to calls that change nothing, as many lists as it takes.
    told = []
    ahead = setting(n, rules)
    for start in range(0, len(calls), CALLS_AT_ONCE):
        answers = ask(*ahead, *calls[start:start + CALLS_AT_ONCE])
        expected = [[0]] + [[j] for j in range(len(rules))] + [[0]] * len(rules)
        if answers[:len(ahead)] != expected:
            raise AssertionError(f"these rules are refused: {rules!r}")
        told.extend(answers[len(ahead):])
    return told


def weight_at(mixture, amounts):
    product = Fraction(1)
    for often, amount in zip(mixture, amounts):
        product *= amount ** often
    return product


def steady_at(rules, amounts):
    flows = [(both, Fraction(*told) * weight_at(both[0], amounts)) for both, told in rules]
    return all(sum(flow * (both[1][s] - both[0][s]) for both, flow in flows) == 0 for s in range(len(amounts)))


def met_at(levels, amounts):
    # The levels as they're told, one for each substance.
    return all(told == [-33] or amount ** told[0] == Fraction(*told[1:]) for told, amount in zip(levels, amounts))
