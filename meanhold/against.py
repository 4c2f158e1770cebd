"""Long gains against a told strategy, and the rows that show them."""

from meanhold.answers import right_answer
from meanhold.bounds import lower_slacks, upper_slacks
from meanhold.games import with_strategy


def are_rows(game, rows):
    """Returns True if each of the two lists has a number for each place and no further ones."""
    gains, leads = rows
    return len(gains) == len(game) and len(leads) == len(game)


def is_lower(game, rows, *, ours):
    """Returns True if the rows are lower rows of the game with the strategy of ours (point 23)."""
    if not are_rows(game, rows):
        return False
    return all([n >= 0 for slack in lower_slacks(game, rows, ours) for n, _ in slack])


def is_upper(game, rows, *, theirs):
    """Returns True if the rows are upper rows of the game with the strategy of theirs (point 24)."""
    if not are_rows(game, rows):
        return False
    return all([n <= 0 for slack in upper_slacks(game, rows, theirs) for n, _ in slack])


def least_against(game, ours):
    """Returns rows and a strategy of theirs that show the least long gains of ours (point 26)."""
    gains, leads, _, theirs = right_answer(with_strategy(game, "ours", ours))
    return ((gains, leads), theirs)


def greatest_against(game, theirs):
    """Returns rows and a strategy of ours that show the greatest long gains of theirs (point 26)."""
    gains, leads, ours, _ = right_answer(with_strategy(game, "theirs", theirs))
    return ((gains, leads), ours)


def shows_least(game, rows, *, ours, theirs):
    """Returns True if the rows and theirs show the least long gains of ours (point 26)."""
    told = with_strategy(game, "ours", ours)
    return is_lower(game, rows, ours=ours) and is_upper(told, rows, theirs=theirs)


def shows_greatest(game, rows, *, ours, theirs):
    """Returns True if the rows and ours show the greatest long gains of theirs (point 26)."""
    told = with_strategy(game, "theirs", theirs)
    return is_upper(game, rows, theirs=theirs) and is_lower(told, rows, ours=ours)
