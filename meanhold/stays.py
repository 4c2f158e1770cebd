"""Stays: which part of all steps a side can spend at some places; games weighed at these places."""

from meanhold.answers import right_answer
from meanhold.exact import ONE, ZERO, plus
from meanhold.swaps import exchanged, with_gains


def visiting(game, places):
    """Returns the visiting game of the list of places (point 54)."""
    return with_gains(game, [ONE if x in places else ZERO for x in range(len(game))])


def stays(game, places, *, side):
    """Returns the stays of the list, where the side wants many of the steps (points 54 and 55)."""
    told = game if side == "ours" else exchanged(game)
    return right_answer(visiting(told, places))[0]


def weighed(game, places, *, weight):
    """Returns the list of the weighed values (point 56)."""
    gains = [plus(place[0], weight) if x in places else place[0] for x, place in enumerate(game)]
    return right_answer(with_gains(game, gains))[0]
