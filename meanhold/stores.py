"""Stores that never run dry: the least ones, those for a time, those in a box."""

from meanhold.needs import least_needs, needed_behind


def least_stores(game):
    """Returns the list of the least stores, None where they are endless (point 40)."""
    return least_needs(game, [])


def stores_for(game, steps):
    """Returns the stores for so many steps (point 41)."""
    stores = [0] * len(game)
    for _ in range(steps):
        stores = [max(0, needed_behind(place, stores) - place[0][0]) for place in game]
    return stores


def is_enough(game, stores):
    """Returns True if the list is enough, otherwise False (point 42)."""
    return all([store is None or _is_enough_at(place, store, stores) for place, store in zip(game, stores)])


def boxed_stores(game, size):
    """Returns the list of the least stores in a box of this size, None where there is none (point 43)."""
    lost = []
    while True:
        stores = least_needs(game, lost)
        # Where more is needed than the box holds, all is lost; so others may need more than before.
        over = [x for x, store in enumerate(stores) if store is None or store > size]
        if over == lost:
            return stores
        lost = over


def keeping(game):
    """Returns the keeping strategy (point 44)."""
    stores = least_stores(game)
    return [_first_least(place, stores) if place[1] == "ours" else None for place in game]


def _is_enough_at(place, store, stores):
    wanted = needed_behind(place, stores)
    return wanted is not None and wanted <= store + place[0][0]


def _first_least(place, stores):
    reached = [stores[target] for target in place[2]]
    return reached.index(needed_behind(place, stores))
