"""Slacks: by how much the branches and draws of a game miss what its rows tell."""

from meanhold.exact import ZERO, divided, greatest, least, minus, plus, times, width
from meanhold.places import mean_at


def slacks(game, rows):
    """Returns a list with the slack of each draw and the list of slacks of each other place (point 30)."""
    return [_slacks_at(place, x, rows) for x, place in enumerate(game)]


def tight_branches(game, rows):
    """Returns a list with the list of the tight branches of each place of a side, None for a draw."""
    return [_tight_at(place, found) for place, found in zip(game, slacks(game, rows))]


def sums_at_least(rows, place, count):
    """Returns the number that the first gains of so many steps reach at least (point 32)."""
    return minus(_due(rows, place, count), greatest(rows[1]))


def sums_at_most(rows, place, count):
    """Returns the number that the first gains of so many steps reach at most (point 32)."""
    return minus(_due(rows, place, count), least(rows[1]))


def steps_for(rows, *, near):
    """Returns the least number of steps, from 1 on, by which the spread divided is at most `near`."""
    n, d = divided(width(rows[1]), near)
    return max(1, -(-n // d))


def slack_of(gain, here, behind):
    """The slack of a step with this gain; the pairs tell the numbers of the rows here and behind it."""
    return (minus(behind[0], here[0]), minus(plus(gain, behind[1]), plus(here[0], here[1])))


def _slacks_at(place, x, rows):
    gain, kind, branches = place
    gains, leads = rows
    if kind == "draw":
        return slack_of(gain, (gains[x], leads[x]), (mean_at(place, gains), mean_at(place, leads)))
    return [slack_of(gain, (gains[x], leads[x]), (gains[y], leads[y])) for y in branches]


def _tight_at(place, found):
    if place[1] == "draw":
        return None
    return [number for number, slack in enumerate(found) if slack == (ZERO, ZERO)]


def _due(rows, place, count):
    """The number of the place among the gains, times the count, and its lead together."""
    gains, leads = rows
    return plus(times((count, 1), gains[place]), leads[place])
