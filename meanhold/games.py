"""Games: whether one is as it should be, and games with a strategy put in."""

from meanhold.errors import BadChance, BadKind, BadNumber, BadSize, BadTarget
from meanhold.exact import ONE, ZERO, is_short, is_whole, plus

MOST_PLACES = 12
MOST_BRANCHES = 6


def check_game(game):
    """Returns None, or raises the first error that is due (point 5)."""
    if not 1 <= len(game) <= MOST_PLACES:
        raise BadSize()
    for place in game:
        _check_place(place, len(game))


def with_strategy(game, side, strategy):
    """Returns the game with the strategy of the side put in (point 3)."""
    return [_told(place, side, number) for place, number in zip(game, strategy)]


def _check_place(place, many):
    gain, kind, branches = place
    if not is_short(gain):
        raise BadNumber()
    if kind not in ("draw", "ours", "theirs"):
        raise BadKind()
    if not 1 <= len(branches) <= MOST_BRANCHES:
        raise BadSize()
    if kind == "draw":
        _check_draw(branches, many)
    else:
        for target in branches:
            _check_target(target, many)


def _check_draw(branches, many):
    chances = ZERO
    for chance, target in branches:
        if not is_short(chance):
            raise BadNumber()
        if chance[0] <= 0:
            raise BadChance()
        _check_target(target, many)
        chances = plus(chances, chance)
    if chances != ONE:
        raise BadChance()


def _check_target(target, many):
    if not is_whole(target) or not 0 <= target < many:
        raise BadTarget()


def _told(place, side, number):
    gain, kind, branches = place
    if kind == side:
        return (gain, "draw", [(ONE, branches[number])])
    return (gain, kind, list(branches))
