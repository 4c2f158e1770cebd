"""The slacks that decide whether rows of a game are lower or upper rows."""

from meanhold.slacks import slacks


def lower_slacks(game, rows, ours):
    """The list of the slacks both numbers of which are at least 0 just in lower rows (point 23)."""
    return _slacks_that_count(game, rows, "ours", ours)


def upper_slacks(game, rows, theirs):
    """The list of the slacks both numbers of which are at most 0 just in upper rows (point 24)."""
    return _slacks_that_count(game, rows, "theirs", theirs)


def _slacks_that_count(game, rows, side, strategy):
    """Those of the draws, of the branches that the strategy of the side tells, and of all of the other side."""
    found = []
    for place, number, slack in zip(game, strategy, slacks(game, rows)):
        if place[1] == "draw":
            found.append(slack)
        elif place[1] == side:
            found.append(slack[number])
        else:
            found.extend(slack)
    return found
