"""The values of a game: the greatest gain per step of which we can be sure in the long run."""

from meanhold.against import is_lower, is_upper
from meanhold.answers import right_answer
from meanhold.games import with_strategy
from meanhold.lifts import least_lift, raised
from meanhold.places import has_branch


def values(game):
    """Returns the list of the values (point 27)."""
    return right_answer(game)[0]


def answer_of(game):
    """Returns a right answer for the game (point 28)."""
    return right_answer(game)


def check_answer(game, answer):
    """Returns True if the answer is right, otherwise False (point 28)."""
    gains, leads, ours, theirs = answer
    if not _is_strategy(game, "ours", ours) or not _is_strategy(game, "theirs", theirs):
        return False
    rows = (gains, leads)
    return is_lower(game, rows, ours=ours) and is_upper(game, rows, theirs=theirs)


def is_best(game, strategy, *, side):
    """Returns True if the strategy of the side is best, otherwise False (point 27)."""
    # With it put in, the values are the least or the greatest long gains of the strategy.
    return values(with_strategy(game, side, strategy)) == values(game)


def lifted(answer, *, by, plus):
    """Returns the answer lifted by the two numbers (point 29)."""
    gains, leads, ours, theirs = answer
    return (list(gains), raised(gains, leads, by, plus), list(ours), list(theirs))


def lift_needed(game, answer):
    """Returns the lift that the answer needs, or None if there is none (point 31)."""
    return least_lift(game, answer)


def _is_strategy(game, side, strategy):
    """True if the list has, for each place of the side, a number of its branches, else None."""
    if len(strategy) != len(game):
        return False
    return all([has_branch(place, number) if place[1] == side else number is None
                for place, number in zip(game, strategy)])
