"""What a single place of a game tells: its gain, its branches, its targets, its mean."""

from meanhold.exact import is_whole, times, total


def gains_of(game):
    """The list of the gains of all places."""
    return [gain for gain, _, _ in game]


def targets_of(place):
    """The list of the targets of a place, branch by branch."""
    _, kind, branches = place
    if kind == "draw":
        return [target for _, target in branches]
    return list(branches)


def has_branch(place, number):
    """True if the number is the number of a branch of the place."""
    return is_whole(number) and 0 <= number < len(place[2])


def mean_at(draw, numbers):
    """The mean at a draw of a list with a number for each place (point 4)."""
    return total([times(chance, numbers[target]) for chance, target in draw[2]])
