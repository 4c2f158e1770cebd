"""What a single place of a game tells: its gain, its branches, its targets, its mean."""

from meanhold.exact import greatest, is_whole, least, times, total


def gains_of(game):
    """The list of the gains of all places."""
    return [gain for gain, _, _ in game]


def targets_of(place):
    """The list of the targets of a place, branch by branch."""
    _, kind, branches = place
    if kind == "draw":
        return [target for _, target in branches]
    return list(branches)


def has_branch(place, number):
    """True if the number is the number of a branch of the place."""
    return is_whole(number) and 0 <= number < len(place[2])


def mean_at(draw, numbers):
    """The mean at a draw of a list with a number for each place (point 4)."""
    return total([times(chance, numbers[target]) for chance, target in draw[2]])


def worth_at(place, numbers):
    """The mean of the numbers at a draw, the greatest one of the targets at "ours", the least one at "theirs"."""
    _, kind, branches = place
    if kind == "draw":
        return mean_at(place, numbers)
    reached = [numbers[target] for target in branches]
    return greatest(reached) if kind == "ours" else least(reached)
