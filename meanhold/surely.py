"""What is sure and what can be hoped for, if chance is against us or for us."""

from meanhold.answers import right_answer
from meanhold.games import with_strategy
from meanhold.places import targets_of


def against_us(game):
    """Returns the game against us: its draws are places of theirs (point 45)."""
    return _with_draws_of(game, "theirs")


def for_us(game):
    """Returns the game for us: its draws are places of ours (point 45)."""
    return _with_draws_of(game, "ours")


def sure_gains(game):
    """Returns the list of the sure gains (point 45)."""
    return right_answer(against_us(game))[0]


def hoped_gains(game):
    """Returns the list of the hoped gains (point 45)."""
    return right_answer(for_us(game))[0]


def bands(game):
    """Returns the list of the tuples of the sure gain, the value and the hoped gain of all places."""
    return list(zip(sure_gains(game), right_answer(game)[0], hoped_gains(game)))


def sure_strategy(game):
    """Returns a strategy of ours whose sure gains are those of all places (point 47)."""
    return right_answer(against_us(game))[2]


def sure_gains_of(game, ours):
    """Returns the list of the sure gains of the strategy of ours (point 47)."""
    return right_answer(with_strategy(against_us(game), "ours", ours))[0]


def firm_places(game):
    """Returns the ascending list of the firm places (point 48)."""
    return [x for x, (sure, _, hoped) in enumerate(bands(game)) if sure == hoped]


def _with_draws_of(game, side):
    return [(place[0], side if place[1] == "draw" else place[1], targets_of(place)) for place in game]
