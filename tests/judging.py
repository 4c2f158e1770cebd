"""The tests' own sums over games of two sides, in fractions."""

from fractions import Fraction
from itertools import product

from meanhold.leads import long_gains

SIDES = ("ours", "theirs")
OTHER = {"ours": "theirs", "theirs": "ours"}


def exact(number):
    return Fraction(*number)


def all_exact(numbers):
    return [Fraction(*number) for number in numbers]


def mean(place, numbers):
    return sum((exact(chance) * numbers[target] for chance, target in place[2]), Fraction(0))


def reached(place, numbers):
    """The mean of the numbers at a draw, else the best one of the targets for the side of the place."""
    if place[1] == "draw":
        return mean(place, numbers)
    return (max if place[1] == "ours" else min)(numbers[target] for target in place[2])


def worths_by_steps(game, discount, steps):
    """The worths of 0, 1 .. steps steps, where each later step counts the discount times."""
    found = [[Fraction(0)] * len(game)]
    for _ in range(steps):
        found.append([exact(place[0]) + discount * reached(place, found[-1]) for place in game])
    return found


def strategies(game, side):
    """All strategies of a side."""
    return [list(told) for told in product(*[range(len(place[2])) if place[1] == side else [None] for place in game])]


def told_draw(place, branch):
    return (place[0], "draw", [((1, 1), place[2][branch])])


def put_in(game, side, strategy):
    return [told_draw(place, told) if place[1] == side else place for place, told in zip(game, strategy)]


def pair_put_in(game, by_side):
    return put_in(put_in(game, "ours", by_side["ours"]), "theirs", by_side["theirs"])


_KEPT = {}


def _best_replies(game, side):
    """For each strategy of the side the best long gains of the other side, over all its strategies."""
    best = min if side == "ours" else max
    found = []
    for strategy in strategies(game, side):
        against = [all_exact(long_gains(pair_put_in(game, {side: strategy, OTHER[side]: reply})))
                   for reply in strategies(game, OTHER[side])]
        found.append((strategy, [best(column) for column in zip(*against)]))
    return found


def long_gains_against(game, side):
    """A list of pairs: each strategy of the side, and the best long gains of the other side against it."""
    key = (repr(game), side)
    if key not in _KEPT:
        _KEPT[key] = _best_replies(game, side)
    return _KEPT[key]


def values(game, side):
    """The best numbers that a strategy of the side can be sure of, place by place."""
    best = max if side == "ours" else min
    return [best(column) for column in zip(*[gains for _, gains in long_gains_against(game, side)])]


def _steps_told(game, side, strategy):
    """Each draw, each branch that the strategy of the side tells, each branch of the other side.

    Tuples of a place, the number of the branch or None, and lists of chances and targets.
    """
    for x, (_, kind, branches) in enumerate(game):
        if kind == "draw":
            yield x, None, [(exact(chance), target) for chance, target in branches]
        else:
            for k, target in enumerate(branches):
                if kind != side or k == strategy[x]:
                    yield x, k, [(Fraction(1), target)]


def faults(game, rows, side, strategy):
    """The inequalities of lower rows (for ours) or of upper rows (for theirs) that do not hold.

    They are told as tuples of the side, the place, the branch or None, and "gains" or "leads".
    """
    g, h = all_exact(rows[0]), all_exact(rows[1])
    sign = 1 if side == "ours" else -1
    found = []
    for x, k, behind in _steps_told(game, side, strategy):
        if sign * g[x] > sign * sum(chance * g[y] for chance, y in behind):
            found.append((side, x, k, "gains"))
        if sign * (g[x] + h[x]) > sign * (exact(game[x][0]) + sum(chance * h[y] for chance, y in behind)):
            found.append((side, x, k, "leads"))
    return found


def answer_faults(game, answer):
    """All inequalities of a right answer that do not hold."""
    rows = answer[:2]
    return faults(game, rows, "ours", answer[2]) + faults(game, rows, "theirs", answer[3])


def showing_faults(game, rows, side, by_side):
    """The inequalities that do not hold where rows and a reply are to show the long gains of the side's strategy."""
    strategy, reply = by_side[side], by_side[OTHER[side]]
    told = put_in(game, side, strategy)
    return faults(game, rows, side, strategy) + faults(told, rows, OTHER[side], reply)


def is_strategy(game, side, strategy):
    return isinstance(strategy, list) and len(strategy) == len(game) and all(
        told in range(len(place[2])) if place[1] == side else told is None for place, told in zip(game, strategy))
