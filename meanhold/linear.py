"""Linear equations, solved exactly over whole numbers."""

from meanhold.exact import common_denominator, lowest, whole_at


def solved(rows, constants):
    """The list of the numbers f for which each row, a list of whole numbers, gives its constant.

    A row gives the sum of its numbers times those of f. All leading minors of
    the rows are greater than 0.
    """
    # One denominator for all constants: kept apart, it does not make the rows longer.
    unit = common_denominator(constants)
    table = [row + [whole_at(number, unit)] for row, number in zip(rows, constants)]
    pivot = 1
    for k in range(len(rows)):
        table = _cleared(table, k, pivot)
        pivot = table[k][k]
    return [lowest(row[-1], pivot * unit) for row in table]


def _cleared(table, k, before):
    """The table with 0 in the column k but for the row k; `before` is the pivot before it.

    All numbers are minors of the first table, so the division leaves no rest;
    and behind this step the rows up to k have the same pivot.
    """
    chosen = table[k]
    pivot = chosen[k]
    cleared = []
    for j, row in enumerate(table):
        if j == k:
            cleared.append(chosen)
        else:
            cleared.append([(pivot * a - row[k] * b) // before for a, b in zip(row, chosen)])
    return cleared
