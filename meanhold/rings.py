"""Rings of a game: which mean is greatest, and potentials that show it."""

from meanhold.answers import right_answer
from meanhold.chains import reached_from
from meanhold.exact import divided, is_less, minus, plus, total
from meanhold.games import with_strategy
from meanhold.places import targets_of


def is_ours_alone(game):
    """Returns True if the game is ours alone, otherwise False (point 38)."""
    return all([kind == "ours" or (kind == "draw" and len(branches) == 1) for _, kind, branches in game])


def is_ring(game, places):
    """Returns True if the list is a ring of the game, otherwise False (point 38)."""
    if not places or len(set(places)) != len(places):
        return False
    ahead = places[1:] + places[:1]
    return all([target in targets_of(game[x]) for x, target in zip(places, ahead)])


def ring_mean(game, ring):
    """Returns the mean of a ring (point 38)."""
    return divided(total([game[x][0] for x in ring]), (len(ring), 1))


def greatest_ring(game, place):
    """Returns a ring that is reached from the place, none of which has a greater mean (point 38)."""
    # Put in, a best strategy leaves one play, and its ring has the value of the place as its mean.
    told = with_strategy(game, "ours", right_answer(game)[2])
    path = []
    here = place
    while here not in path:
        path.append(here)
        here = targets_of(told[here])[0]
    return path[path.index(here):]


def potentials_for(game, place):
    """Returns potentials that show that no ring reached from the place has a greater mean (point 39)."""
    # The leads of a right answer show it from each place: no step from x books more than
    # the gain of x among its rows, and this is at most the value of a place from which x is reached.
    return right_answer(game)[1]


def shows_no_greater(game, place, mean, potentials):
    """Returns True if the potentials show that no ring reached from the place has a greater mean (point 39)."""
    return all([_holds_at(game, x, mean, potentials) for x in reached_from(game, place)])


def _holds_at(game, x, mean, potentials):
    over = minus(game[x][0], mean)
    return not any([is_less(potentials[x], plus(over, potentials[target])) for target in targets_of(game[x])])
