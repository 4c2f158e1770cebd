"""Games in which later gains count less: their worths with a discount."""

from meanhold.exact import ONE, ZERO, divided, greatest, is_less, minus, plus, times
from meanhold.improving import best_branches, first_choices, settled
from meanhold.places import gains_of, worth_at
from meanhold.stepping import worths_after

MOST_STEPS = 40


def discounted_worths(game, *, discount):
    """Returns the discounted worths (point 17)."""
    _, worths = settled(game, discount, first_choices(game))
    return worths


def are_worths(game, numbers, *, discount):
    """Returns True if the list consists of the discounted worths, otherwise False (point 17)."""
    if len(numbers) != len(game):
        return False
    told = [plus(place[0], times(discount, worth_at(place, numbers))) for place in game]
    return told == numbers


def discounted_strategies(game, *, discount):
    """Returns the tuple of the discounted strategies (point 18)."""
    worths = discounted_worths(game, discount=discount)
    return (best_branches(game, "ours", worths), best_branches(game, "theirs", worths))


def worths_of_steps(game, *, discount, steps):
    """Returns the discounted worths of so many steps (point 19)."""
    return worths_after(game, discount, [ZERO] * len(game), steps)


def rest_of(game, *, discount, steps):
    """Returns the rest of so many steps (point 19)."""
    most = greatest([(abs(n), d) for n, d in gains_of(game)])
    rest = divided(most, minus(ONE, discount))
    for _ in range(steps):
        rest = times(rest, discount)
    return rest


def steps_for(game, *, discount, error):
    """Returns the least number of steps, up to 40, whose rest is at most the error, or None."""
    rest = rest_of(game, discount=discount, steps=0)
    for steps in range(MOST_STEPS + 1):
        if not is_less(error, rest):
            return steps
        rest = times(rest, discount)
    return None
