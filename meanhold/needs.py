"""Least stores, by choices of ours that are made better until none can be.

A need is a whole number from 0 on, a store that is enough, or None, which stands for no such
number and is greater than each one.
"""

from meanhold.places import targets_of


def needed_behind(place, needs):
    """The least need of the targets of a place at "ours", the greatest one elsewhere."""
    reached = [needs[target] for target in targets_of(place)]
    return _least_of(reached) if place[1] == "ours" else _greatest_of(reached)


def least_needs(game, lost):
    """The list of the least stores if no store is enough at the places of the list `lost`."""
    # Made finer, a circle that loses nothing gains something, and one that loses still loses.
    # So needs that fit all places are the least ones: none can live on a circle that gains nothing.
    fine = len(game) + 1
    gains = [place[0][0] * fine + 1 for place in game]
    most = sum([abs(gain) for gain in gains])
    # Ours begin by giving up everywhere, at a price that only endless needs come to in the end.
    price = 2 * most + 1
    choices = [None] * len(game)
    while True:
        needs = _needs_of(game, gains, choices, lost, price)
        better = [_better_of(place, choice, needs, price) for place, choice in zip(game, choices)]
        if better == choices:
            return [None if need is None or need > most else -(-need // fine) for need in needs]
        choices = better


def _needs_of(game, gains, choices, lost, price):
    """The needs if ours go by their choices, where None gives up at the price."""
    needs = [None if x in lost else 0 for x in range(len(game))]
    for _ in game:
        needs = _with_a_step(game, gains, choices, needs, price)
    # What still grows behind as many steps as there are places goes round a circle that loses.
    grown = _with_a_step(game, gains, choices, needs, price)
    needs = [need if need == other else None for need, other in zip(needs, grown)]
    for _ in game:
        needs = _with_a_step(game, gains, choices, needs, price)
    return needs


def _with_a_step(game, gains, choices, needs, price):
    """The needs for a step more; a need that is endless stays so."""
    found = []
    for place, gain, choice, need in zip(game, gains, choices, needs):
        behind = _behind(place, choice, needs, price)
        found.append(None if need is None or behind is None else max(0, behind - gain))
    return found


def _behind(place, choice, needs, price):
    """The need behind a step from the place."""
    if place[1] != "ours":
        return needed_behind(place, needs)
    return price if choice is None else needs[place[2][choice]]


def _better_of(place, choice, needs, price):
    """The choice, or the first best branch if this needs less; so it stays None but at "ours"."""
    best = needed_behind(place, needs)
    if best is None or best >= _behind(place, choice, needs, price):
        return choice
    return [needs[target] for target in place[2]].index(best)


def _least_of(needs):
    numbers = [need for need in needs if need is not None]
    return min(numbers) if numbers else None


def _greatest_of(needs):
    return None if None in needs else max(needs)
