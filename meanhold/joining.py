"""Games made of others: slowed, in turns, shifted, scaled, turned round and rolled."""

from meanhold.errors import BadSize
from meanhold.exact import ONE, ZERO, minus, negative, plus, times
from meanhold.games import MOST_PLACES
from meanhold.places import gains_of, mean_at
from meanhold.swaps import exchanged, with_gains, with_short_gains


def slowed(game, k):
    """Returns the game slowed by k; raises BadSize if it would have more than 12 places (point 63)."""
    many = len(game)
    if many * (k + 1) > MOST_PLACES:
        raise BadSize()
    names = [many + k * x if k > 0 else x for x in range(many)]
    told = [_renamed(place, names) for place in game]
    for x in range(many):
        last = many + k * x + k - 1
        for rest in range(many + k * x, last + 1):
            told.append((ZERO, "draw", [(ONE, x if rest == last else rest + 1)]))
    return told


def in_turns(first, second):
    """Returns the game in turns; raises BadSize if it would have more than 12 places (point 64)."""
    many = len(second)
    if 2 * len(first) * many > MOST_PLACES:
        raise BadSize()
    told = []
    for x, place in enumerate(first):
        for y, other in enumerate(second):
            told.append(_renamed(place, [2 * (many * z + y) + 1 for z in range(len(first))]))
            told.append(_renamed(other, [2 * (many * x + z) for z in range(many)]))
    return told


def shifted(game, number):
    """Returns the game shifted by the number; raises BadNumber if a gain would not be short (point 65)."""
    return with_short_gains(game, [plus(gain, number) for gain in gains_of(game)])


def scaled(game, number):
    """Returns the game scaled by the number; raises BadNumber if a gain would not be short (point 65)."""
    return with_short_gains(game, [times(gain, number) for gain in gains_of(game)])


def turned_round(game):
    """Returns the game turned round (point 65)."""
    return with_gains(exchanged(game), [negative(gain) for gain in gains_of(game)])


def rolled(chain, numbers):
    """Returns the chain rolled by the numbers; raises BadNumber if a gain would not be short (point 66)."""
    gains = [minus(plus(place[0], number), mean_at(place, numbers)) for place, number in zip(chain, numbers)]
    return with_short_gains(chain, gains)


def _renamed(place, names):
    """The place with the name among the names for each of its targets, in a new list."""
    gain, kind, branches = place
    if kind == "draw":
        return (gain, kind, [(chance, names[target]) for chance, target in branches])
    return (gain, kind, [names[target] for target in branches])
