"""Games that are like another one but for their gains or their sides."""

from meanhold.errors import BadNumber
from meanhold.exact import is_short

OTHER_KIND = {"draw": "draw", "ours": "theirs", "theirs": "ours"}


def with_gains(game, gains):
    """The game with these gains, all else as it was, in new lists."""
    return [(gain, kind, list(branches)) for gain, (_, kind, branches) in zip(gains, game)]


def with_short_gains(game, gains):
    """The game with these gains; raises BadNumber if one of them is not a short number."""
    if not all([is_short(gain) for gain in gains]):
        raise BadNumber()
    return with_gains(game, gains)


def exchanged(game):
    """The game with its sides exchanged; the lists in it are those of the game."""
    return [(gain, OTHER_KIND[kind], branches) for gain, kind, branches in game]
