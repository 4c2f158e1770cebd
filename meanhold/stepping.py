"""What the first steps of a game are worth, where later steps may count less."""

from meanhold.exact import common_denominator, lowest, whole_at
from meanhold.places import gains_of, targets_of


def worths_after(game, discount, start, steps):
    """The list of the worths of so many steps from starting worths; the discount may also be 1.

    They are the starting worths for no steps; with each step more the worth of a place is its
    gain and, times the discount, the mean of the worths at a draw, the greatest one of its
    targets at "ours", the least one at "theirs".
    """
    # Over one denominator, and reduced at the end alone: the numbers grow with each step.
    n, d = discount
    unit = common_denominator(gains_of(game) + start)
    scale = common_denominator(_chances_of(game))
    gains = [whole_at(gain, unit) for gain in gains_of(game)]
    worths = [whole_at(worth, unit) for worth in start]
    for _ in range(steps):
        unit = unit * scale * d
        gains = [gain * scale * d for gain in gains]
        worths = [gain + n * _scaled_worth(place, worths, scale) for gain, place in zip(gains, game)]
    return [lowest(worth, unit) for worth in worths]


def _chances_of(game):
    return [chance for _, kind, branches in game if kind == "draw" for chance, _ in branches]


def _scaled_worth(place, worths, scale):
    """The mean, the greatest or the least one of the worths of the targets, times the scale."""
    _, kind, branches = place
    if kind == "draw":
        return sum([whole_at(chance, scale) * worths[target] for chance, target in branches])
    reached = [worths[target] for target in targets_of(place)]
    return scale * (max(reached) if kind == "ours" else min(reached))
