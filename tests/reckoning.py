"""The tests' own exact sums over chains, in fractions."""

from fractions import Fraction


def gains(chain):
    return [Fraction(*place[0]) for place in chain]


def matrix(chain):
    rows = []
    for _, _, branches in chain:
        row = [Fraction(0)] * len(chain)
        for chance, target in branches:
            row[target] += Fraction(*chance)
        rows.append(row)
    return rows


def applied(rows, numbers):
    return [sum((a * b for a, b in zip(row, numbers)), Fraction(0)) for row in rows]


def solution(rows, constants):
    """The only solution of linear equations."""
    table = [list(row) + [constant] for row, constant in zip(rows, constants)]
    for k in range(len(table)):
        chosen = next(j for j in range(k, len(table)) if table[j][k] != 0)
        table[k], table[chosen] = table[chosen], table[k]
        table[k] = [a / table[k][k] for a in table[k]]
        for j in range(len(table)):
            if j != k:
                table[j] = [a - table[j][k] * b for a, b in zip(table[j], table[k])]
    return [row[-1] for row in table]


def reaching(rows):
    """reach[x][y]: True if y is reached from x, in no step or in several."""
    places = range(len(rows))
    reach = [[x == y or rows[x][y] > 0 for y in places] for x in places]
    for z in places:
        for x in places:
            for y in places:
                reach[x][y] = reach[x][y] or (reach[x][z] and reach[z][y])
    return reach


def closed_groups(rows):
    reach = reaching(rows)
    places = range(len(rows))
    groups = []
    for x in places:
        group = [y for y in places if reach[x][y]]
        if all(reach[y][x] for y in group) and group not in groups:
            groups.append(group)
    return groups


def shares_in(rows, group):
    """The part of all steps, in the long run, that leave each place of a group."""
    equations = [[rows[y][x] - (x == y) for y in group] for x in group]
    equations[0] = [Fraction(1)] * len(group)
    return solution(equations, [Fraction(1)] + [Fraction(0)] * (len(group) - 1))


def chances_to_come(rows, group, groups):
    """The chance, from each place, to come to a group that is never left."""
    staying = [x for found in groups for x in found]
    passing = [x for x in range(len(rows)) if x not in staying]
    equations = [[(x == y) - rows[x][y] for y in passing] for x in passing]
    chances = solution(equations, [sum((rows[x][y] for y in group), Fraction(0)) for x in passing])
    found = [Fraction(int(x in group)) for x in range(len(rows))]
    for x, chance in zip(passing, chances):
        found[x] = chance
    return found


def shares(chain):
    """shares[x][y]: the share of the place y, from the place x (point 11)."""
    rows = matrix(chain)
    found = [[Fraction(0)] * len(chain) for _ in chain]
    groups = closed_groups(rows)
    for group in groups:
        chances = chances_to_come(rows, group, groups)
        for y, share in zip(group, shares_in(rows, group)):
            for x, chance in enumerate(chances):
                found[x][y] += chance * share
    return found


def first_gains(chain, steps):
    """The first gains of 0, 1 .. steps steps, told from the far end: the last step is added first."""
    rows = matrix(chain)
    found = [[Fraction(0)] * len(chain)]
    for _ in range(steps):
        found.append([a + b for a, b in zip(gains(chain), applied(rows, found[-1]))])
    return found


def chances_of_places(chain, steps, start):
    """The chances of all places behind so many steps from the start."""
    rows = matrix(chain)
    chances = [Fraction(int(x == start)) for x in range(len(chain))]
    for _ in range(steps):
        chances = [sum((chances[x] * rows[x][y] for x in range(len(chain))), Fraction(0))
                   for y in range(len(chain))]
    return chances


def sure_to_come(chain, place):
    """True for each place from which the play comes to the place with the chance 1."""
    stopped = list(chain)
    stopped[place] = ((0, 1), "draw", [((1, 1), place)])
    return [row[place] == 1 for row in shares(stopped)]
