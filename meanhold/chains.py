"""Chains: what is reached, what is never left, and means of sums up to a time."""

from meanhold.exact import ONE, ZERO, common_denominator, divided, plus, times, whole_at
from meanhold.linear import solved
from meanhold.places import mean_at, targets_of


def reached_from(game, start):
    """The ascending list of the places that are reached from the start, in no step or in several."""
    found = [start]
    at = 0
    while at < len(found):
        here = found[at]
        for target in targets_of(game[here]):
            if target not in found:
                found.append(target)
        at += 1
    return sorted(found)


def groups_of(chain):
    """The list of the groups that are never left: ascending lists of places.

    From each place of a group just the places of the group are reached.
    """
    reached = [reached_from(chain, x) for x in range(len(chain))]
    groups = []
    for x, places in enumerate(reached):
        if places[0] == x and all([reached[y] == places for y in places]):
            groups.append(places)
    return groups


def passing_places(chain):
    """The ascending list of the places that are in no group."""
    staying = [x for group in groups_of(chain) for x in group]
    return [x for x in range(len(chain)) if x not in staying]


def sure_to_reach(chain, place):
    """The ascending list of the places from which the play comes to the place with the chance 1."""
    stopped = list(chain)
    stopped[place] = (ZERO, "draw", [(ONE, place)])
    reached = [reached_from(stopped, x) for x in range(len(chain))]
    return [x for x, places in enumerate(reached) if all([place in reached[y] for y in places])]


def filled_in(chain, places, extra, known, discount=ONE):
    """The list f that is `known`, but at the places its extra and the discount times the mean of f there.

    `extra` and `known` are lists with a number for each place; `known` is 0 at
    the places. The discount is less than 1, or the play comes out of the
    places with the chance 1: so there is just one such f, and all leading
    minors of the equations are greater than 0.
    """
    scales = [_scale_of(chain[x]) for x in places]
    rows = [_row_of(chain, x, places, scale, discount) for x, scale in zip(places, scales)]
    sums = [plus(extra[x], times(discount, mean_at(chain[x], known))) for x in places]
    constants = [times(number, (scale * discount[1], 1)) for number, scale in zip(sums, scales)]
    found = list(known)
    for x, number in zip(places, solved(rows, constants)):
        found[x] = number
    return found


def mean_in_group(chain, group, numbers):
    """The mean, in the long run, of the numbers at the places through which a play in the group goes.

    It is that of the steps from the first place of the group until the play is there again.
    """
    first = group[0]
    nothing = [ZERO] * len(chain)
    steps = filled_in(chain, group[1:], [ONE] * len(chain), nothing)
    sums = filled_in(chain, group[1:], numbers, nothing)
    sum_of_round = plus(numbers[first], mean_at(chain[first], sums))
    return divided(sum_of_round, plus(ONE, mean_at(chain[first], steps)))


def _scale_of(draw):
    return common_denominator([chance for chance, _ in draw[2]])


def _row_of(chain, x, places, scale, discount):
    """The coefficients, at the places, of f(x) less the discount times the mean of f at x.

    They are multiplied by the scale and by the d of the discount, which makes them whole.
    """
    n, d = discount
    row = [scale * d if y == x else 0 for y in places]
    for chance, target in chain[x][2]:
        if target in places:
            row[places.index(target)] -= n * whole_at(chance, scale)
    return row
