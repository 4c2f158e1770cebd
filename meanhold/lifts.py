"""Lifts: leads raised along the gains until an answer is right."""

from meanhold.bounds import lower_slacks, upper_slacks
from meanhold.exact import ZERO, divided, greatest, negative, plus, times


def raised(gains, leads, by, extra):
    """The list of the leads, each greater by `by` times the number among the gains, and the extra."""
    return [plus(lead, plus(times(by, gain), extra)) for gain, lead in zip(gains, leads)]


def least_lift(game, answer):
    """The least number from 0 on by which the answer becomes right if it is lifted, or None (point 31)."""
    found = ZERO
    for shift, booking in _wanted_slacks(game, answer):
        # A lift by c adds c times the shift to the booking, and leaves the shift.
        if shift[0] < 0 or (shift[0] == 0 and booking[0] < 0):
            return None
        if shift[0] > 0:
            found = greatest([found, divided(negative(booking), shift)])
    return found


def _wanted_slacks(game, answer):
    """The list of all slacks, with the sign with which they are at least 0 in a right answer."""
    gains, leads, ours, theirs = answer
    rows = (gains, leads)
    turned = [(negative(shift), negative(booking)) for shift, booking in upper_slacks(game, rows, theirs)]
    return lower_slacks(game, rows, ours) + turned
