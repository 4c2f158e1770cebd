"""What a gain is worth: how the values change with the gains."""

from meanhold.answers import right_answer
from meanhold.exact import divided, is_less, minus, plus
from meanhold.places import gains_of
from meanhold.swaps import with_gains, with_short_gains

GREATEST_GAIN = 999


def with_gain(game, place, gain):
    """Returns the game with this gain at the place (point 49)."""
    return with_gains(game, [gain if x == place else own for x, own in enumerate(gains_of(game))])


def with_gains_added(game, additions):
    """Returns the game with these numbers added to its gains; raises BadNumber if one would not be short."""
    return with_short_gains(game, [plus(gain, number) for gain, number in zip(gains_of(game), additions)])


def values_for(game, place, gains, *, at):
    """Returns the list of the values at the place `at` for each of the gains of the place (point 49)."""
    return [_value_for(game, place, gain, at) for gain in gains]


def mean_rise(game, place, first, second, *, at):
    """Returns the mean rise from the first to the second gain, in either order (point 51)."""
    low, high = (first, second) if is_less(first, second) else (second, first)
    before, behind = values_for(game, place, [low, high], at=at)
    return divided(minus(behind, before), minus(high, low))


def bend(game, place, gains, *, at):
    """Returns the bend at the three gains of the list: 1, 0 or -1 (point 51)."""
    low, middle, high = gains
    before = mean_rise(game, place, low, middle, at=at)
    behind = mean_rise(game, place, middle, high, at=at)
    if before == behind:
        return 0
    return 1 if is_less(before, behind) else -1


def price(game, place, goal, *, at):
    """Returns the price of the goal, or None if there is none (point 52)."""
    low = -GREATEST_GAIN
    high = GREATEST_GAIN
    if not _reaches(game, place, high, goal, at):
        return None
    # The value never falls with the gain, so the half in which the price lies can be told by one gain.
    while low < high:
        middle = (low + high) // 2
        if _reaches(game, place, middle, goal, at):
            high = middle
        else:
            low = middle + 1
    return low


def _value_for(game, place, gain, at):
    return right_answer(with_gain(game, place, gain))[0][at]


def _reaches(game, place, whole, goal, at):
    """True if the value is at least the goal for this whole gain."""
    return not is_less(_value_for(game, place, (whole, 1), at), goal)
