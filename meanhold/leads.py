"""Chains in the long run: long gains, leads, first gains and ways to a place."""

from meanhold.chains import filled_in, groups_of, mean_in_group, passing_places, sure_to_reach
from meanhold.exact import ONE, ZERO, minus, width
from meanhold.places import gains_of
from meanhold.stepping import worths_after


def long_gains(chain):
    """Returns the list of the long gains (point 11)."""
    gains = gains_of(chain)
    known = [ZERO] * len(chain)
    for group in groups_of(chain):
        mean = mean_in_group(chain, group, gains)
        for x in group:
            known[x] = mean
    return filled_in(chain, passing_places(chain), [ZERO] * len(chain), known)


def leads(chain):
    """Returns the list of the leads (point 12)."""
    ahead = [minus(gain, mean) for gain, mean in zip(gains_of(chain), long_gains(chain))]
    known = [ZERO] * len(chain)
    for group in groups_of(chain):
        raised = filled_in(chain, group[1:], ahead, [ZERO] * len(chain))
        # In a group the shares of a list of numbers times these have the sum 0
        # just where their mean in the long run is 0.
        mean = mean_in_group(chain, group, raised)
        for x in group:
            known[x] = minus(raised[x], mean)
    return filled_in(chain, passing_places(chain), ahead, known)


def first_gains(chain, *, steps):
    """Returns the first gains of so many steps (point 11)."""
    return worths_after(chain, ONE, [ZERO] * len(chain), steps)


def spread(chain):
    """Returns the spread (point 13)."""
    return width(leads(chain))


def ways_to(chain, place):
    """Returns the list of the ways to the place, None where it can be missed (point 14)."""
    return _sums_until(chain, place, [ONE] * len(chain))


def gains_on_ways(chain, place):
    """Returns the list of the gains on the ways to the place, None likewise (point 14)."""
    return _sums_until(chain, place, gains_of(chain))


def _sums_until(chain, place, numbers):
    """The mean sums of the numbers at the places that are left until the play is at the place."""
    sure = sure_to_reach(chain, place)
    before = [x for x in sure if x != place]
    sums = filled_in(chain, before, numbers, [ZERO] * len(chain))
    return [sums[x] if x in sure else None for x in range(len(chain))]
