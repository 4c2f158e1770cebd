"""Right answers, found by discounts that come nearer and nearer to 1."""

from meanhold.exact import ZERO
from meanhold.improving import chain_of, first_choices, settled, strategy_in
from meanhold.leads import leads, long_gains
from meanhold.lifts import least_lift, raised

# The first discount is 1 less 1 divided by so many parts; each further one has the square of them.
FIRST_PARTS = 65536


def right_answer(game):
    """A right answer for the game (point 28)."""
    choices = first_choices(game)
    parts = FIRST_PARTS
    # From some discount on, choices that are best for one are best for all that
    # are nearer to 1, and by point 31 their answer has a lift: so this ends.
    while True:
        choices, _ = settled(game, (parts - 1, parts), choices)
        answer = _answer_by(game, choices)
        by = least_lift(game, answer)
        if by is not None:
            gains, ahead, ours, theirs = answer
            return (gains, raised(gains, ahead, by, ZERO), ours, theirs)
        parts = parts * parts


def _answer_by(game, choices):
    """The long gains and the leads of the chain of the choices, and the strategies that take them."""
    chain = chain_of(game, choices)
    ours = strategy_in(game, "ours", choices)
    theirs = strategy_in(game, "theirs", choices)
    return (long_gains(chain), leads(chain), ours, theirs)
