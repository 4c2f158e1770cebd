"""Plays in which each place has one branch told, followed one by one: the tests' own sums."""

from fractions import Fraction
from itertools import product
from math import inf

KINDS = ("ours", "theirs", "draw")


def targets(place):
    return [branch[1] if place[1] == "draw" else branch for branch in place[2]]


def all_choices(game, kinds):
    """All lists with the number of a branch for each place of these kinds, None for all others."""
    return list(product(*[range(len(place[2])) if place[1] in kinds else [None] for place in game]))


def lasso(game, choices, start):
    """The gains of the beginning and of the circle of the play from the start, as two lists."""
    places = []
    while start not in places:
        places.append(start)
        start = targets(game[start])[choices[start]]
    gains = [Fraction(*game[x][0]) for x in places]
    first = places.index(start)
    return gains[:first], gains[first:]


def mean(beginning, circle):
    """The gain per step of a play."""
    return sum(circle) / len(circle)


def need(beginning, circle):
    """The store that is needed not to fall below 0 on a play, for ever."""
    if sum(circle) < 0:
        return inf
    held, lowest = 0, 0
    for gain in beginning + circle:
        held += gain
        lowest = min(lowest, held)
    return -lowest


def against_all(game, told, worth, worst):
    """For each place the worst worth of all plays in which nothing but the choices of one side is told."""
    rest = [kind for kind in KINDS if kind not in {game[x][1] for x, k in enumerate(told) if k is not None}]
    found = []
    for others in all_choices(game, rest):
        choices = [a if b is None else b for a, b in zip(told, others)]
        found.append([worth(*lasso(game, choices, x)) for x in range(len(game))])
    return [worst(column) for column in zip(*found)]


def best_of_all(game, kinds, worth, best, worst):
    """For each place the best worth of which the one who chooses at these kinds of places can be sure."""
    return [best(column) for column in zip(*[against_all(game, told, worth, worst)
                                             for told in all_choices(game, kinds)])]


def sure_gains(game):
    return best_of_all(game, ("ours",), mean, max, min)


def hoped_gains(game):
    return best_of_all(game, ("ours", "draw"), mean, max, min)


def least_stores(game):
    """The least stores, None where they are endless."""
    return [None if found == inf else found for found in best_of_all(game, ("ours",), need, min, max)]


def plays(game):
    """The number of plays that are told by all choices."""
    many = 1
    for place in game:
        many *= len(place[2])
    return many
