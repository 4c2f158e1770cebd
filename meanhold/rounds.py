"""Worths of n steps: what the first steps of a game bring, with worths to begin with."""

from meanhold.exact import ONE, ZERO, greatest, is_less, least, minus
from meanhold.places import worth_at
from meanhold.stepping import worths_after

MOST_STEPS = 30


def worths(game, steps):
    """Returns the worths of so many steps (point 33)."""
    return worths_from(game, [ZERO] * len(game), steps)


def worths_from(game, start, steps):
    """Returns the worths of so many steps from these starting worths (point 33)."""
    return worths_after(game, ONE, start, steps)


def best_moves(game, place, steps):
    """Returns the ascending list of the best moves at the place with so many steps left (point 34)."""
    _, kind, branches = game[place]
    if kind == "draw":
        return []
    behind = worths(game, steps - 1)
    best = worth_at(game[place], behind)
    return [number for number, target in enumerate(branches) if behind[target] == best]


def bracket(game, steps):
    """Returns the bracket of so many steps, a tuple of two numbers (point 36)."""
    before = worths(game, steps)
    rises = [minus(worth, other) for worth, other in zip(worths_from(game, before, 1), before)]
    return (least(rises), greatest(rises))


def steps_to(game, place, amount):
    """Returns the least number of steps, up to 30, whose worth of the place is at least the amount, or None."""
    found = [ZERO] * len(game)
    for steps in range(MOST_STEPS + 1):
        if not is_less(found[place], amount):
            return steps
        found = worths_from(game, found, 1)
    return None
