"""Ways and plays: the steps of a play, booked exactly."""

from meanhold.errors import NoBranch, NoCircle
from meanhold.exact import ONE, divided, times, total
from meanhold.places import has_branch, targets_of


def places_on(game, start, branches):
    """Returns the list of the places of the way from the start (point 6)."""
    places = [start]
    for at, number in enumerate(branches):
        place = game[places[-1]]
        if not has_branch(place, number):
            raise NoBranch(at)
        places.append(targets_of(place)[number])
    return places


def sum_of(game, start, branches):
    """Returns the sum of the way (point 7)."""
    places = places_on(game, start, branches)
    return total([game[x][0] for x in places[:-1]])


def chance_of(game, start, branches):
    """Returns the chance of the way (point 7)."""
    places = places_on(game, start, branches)
    found = ONE
    for x, number in zip(places, branches):
        _, kind, listed = game[x]
        if kind == "draw":
            found = times(found, listed[number][0])
    return found


def gain_per_step(game, start, beginning, circle):
    """Returns the gain per step of the play (point 8)."""
    places = places_on(game, start, beginning + circle)
    turn = places[len(beginning)]
    if not circle or places[-1] != turn:
        raise NoCircle()
    return divided(sum_of(game, turn, circle), (len(circle), 1))


def follows(game, start, branches, *, side, strategy):
    """Returns True if the way follows the strategy of the side, otherwise False (point 10)."""
    places = places_on(game, start, branches)
    return all([number == strategy[x] for x, number in zip(places, branches) if game[x][1] == side])


def unrolled(game, start, branches):
    """Returns a tuple of the path and the list of the circles of the way (point 9)."""
    places = places_on(game, start, branches)
    path = []
    places_of_path = [start]
    circles = []
    for number, place in zip(branches, places[1:]):
        path.append(number)
        if place in places_of_path:
            at = places_of_path.index(place)
            circles.append((place, path[at:]))
            path = path[:at]
            places_of_path = places_of_path[:at + 1]
        else:
            places_of_path.append(place)
    return (path, circles)


def play_of(game, start, *, ours, theirs):
    """Returns the tuple (beginning, circle) of the play to which the strategies lead (point 10)."""
    branches = []
    places = []
    here = start
    while here not in places:
        _, kind, listed = game[here]
        number = ours[here] if kind == "ours" else theirs[here]
        branches.append(number)
        places.append(here)
        here = listed[number]
    first = places.index(here)
    return (branches[:first], branches[first:])
