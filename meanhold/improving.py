"""Choices of both sides, made better with a discount until neither side can do better.

Choices are a list with the number of a branch for each place of either side, None for each draw.
"""

from meanhold.chains import filled_in
from meanhold.exact import ZERO
from meanhold.games import with_strategy
from meanhold.places import gains_of, worth_at


def first_choices(game):
    """The choices that take the first branch everywhere."""
    return [None if kind == "draw" else 0 for _, kind, _ in game]


def strategy_in(game, side, choices):
    """The strategy of the side that takes its choices."""
    return [number if kind == side else None for (_, kind, _), number in zip(game, choices)]


def chain_of(game, choices):
    """The chain that comes if the choices of both sides are put in."""
    return with_strategy(with_strategy(game, "ours", choices), "theirs", choices)


def best_branches(game, side, worths):
    """For each place of the side the first branch to a target with the best worth, None for all others."""
    return [_best_branch(place, worths) if place[1] == side else None for place in game]


def settled(game, discount, choices):
    """The tuple of choices of which neither side can make its own better, and of their worths.

    They are looked for from the choices that are handed in.
    """
    # Ours are changed only against a best reply: so no worth falls, one grows
    # each time, and no choices of ours come twice.
    while True:
        replied, worths = _replied(game, discount, choices)
        choices = _improved(game, "ours", replied, worths)
        if choices == replied:
            return (choices, worths)


def _replied(game, discount, choices):
    """The choices of ours with a best reply of theirs to them, and the worths."""
    while True:
        worths = _worths_of(game, discount, choices)
        better = _improved(game, "theirs", choices, worths)
        if better == choices:
            return (choices, worths)
        choices = better


def _worths_of(game, discount, choices):
    """The discounted worths of the chain that comes if the choices are put in."""
    chain = chain_of(game, choices)
    return filled_in(chain, list(range(len(chain))), gains_of(chain), [ZERO] * len(chain), discount)


def _improved(game, side, choices, worths):
    """The choices with a best branch at each place of the side where the choice is no best one."""
    best = best_branches(game, side, worths)
    return [_better_of(place, number, other, worths) for place, number, other in zip(game, choices, best)]


def _better_of(place, number, other, worths):
    # A choice that is as good stays: a change that gains nothing could go on for ever.
    if other is None or worths[place[2][other]] == worths[place[2][number]]:
        return number
    return other


def _best_branch(place, worths):
    reached = [worths[target] for target in place[2]]
    return reached.index(worth_at(place, worths))
