"""Relations between weights, the weights that could be by them, and the ratio of two of these."""

from samelevels.fraction import ONE, ZERO, minus, over, times


def first_with(rows, column):
    # The place of the first row that has something in this column; None if there's no such row.
    for k in range(len(rows)):
        if rows[k][column] != ZERO:
            return k
    return None


def led(row, column):
    return [over(part, row[column]) for part in row]


def cleared(row, lead, column):
    # The lead has 1 in this column, so the row's own number there is how often it's taken off.
    factor = row[column]
    return [minus(row[k], times(factor, lead[k])) for k in range(len(row))]


def relations_among(rows, width):
    done = []
    rest = list(rows)
    for column in range(width):
        k = first_with(rest, column)
        if k is not None:
            lead = led(rest[k], column)
            others = rest[:k] + rest[k + 1:]
            rest = [cleared(row, lead, column) for row in others]
            done = [cleared(row, lead, column) for row in done] + [lead]
    return done


def lead_column(relation):
    # A relation is never all 0, so the walk ends within it.
    column = 0
    while relation[column] == ZERO:
        column = column + 1
    return column


def weights_with(relations, leads, width, column):
    weights = [ZERO for k in range(width)]
    weights[column] = ONE
    for k in range(len(relations)):
        weights[leads[k]] = minus(ZERO, relations[k][column])
    return weights


def weights_that_could_be(relations, width):
    # All weights that could be are made of these: one for each column that leads no relation.
    leads = [lead_column(relation) for relation in relations]
    free = [column for column in range(width) if column not in leads]
    return [weights_with(relations, leads, width, column) for column in free]


def ratio_among(choices, i, j):
    # A ratio that holds in each choice holds in all that's made of them.
    found = None
    for weights in choices:
        if weights[j] == ZERO:
            if weights[i] != ZERO:
                return None
        else:
            here = over(weights[i], weights[j])
            if found is not None and found != here:
                return None
            found = here
    if found is None or found[0] <= 0:
        return None
    return found
