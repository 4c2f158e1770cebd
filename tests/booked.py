"""Ledgers for the tests: answers to book against, all that a ledger shows, and the tests' own bookings."""

from fractions import Fraction

from tests import lassos
from tests.support import Dice, draw, way_on
from tests.worlds import EQUALS, FULL, KNOWN, MADE, NO_DRAWS, SINGLES, SLOW, SMALL, SOME_CHAINS, ours, theirs

from meanhold.means import answer_of, lifted

WORDS = ("gift", "slip", "luck")
WORD_OF = {"theirs": "gift", "ours": "slip", "draw": "luck"}

OF_LEDGERS = [ours(0, 0, 1), draw(2, ("1/2", 0), ("1/2", 1))]
ANSWER = ([(4, 3), (4, 3)], [(0, 1), (4, 3)], [1, None], [None, None])
# Places of both sides with a branch that costs something at once, one that costs it for ever, and one named twice.
PARTED = [ours(1, 1, 2, 0, 1), theirs(-2, 0, 3, 1, 0), way_on("1/2", 2), draw(3, ("1/4", 3), ("1/2", 0), ("1/4", 3)),
          theirs(7, 4, 5), ours(-7, 5, 4, 2)]


def answered(games):
    """Pairs of a game and a right answer, some of them lifted."""
    found = []
    for seed, game in enumerate(games):
        answer = answer_of(game)
        if seed % 2:
            answer = lifted(answer, by=(10 ** 40 + 1, 3 ** 50), plus=(-7 * seed, 3))
        found.append((game, answer))
    return found


BOOKS = [(OF_LEDGERS, ANSWER)] + answered([PARTED] + SINGLES + KNOWN + SOME_CHAINS + SMALL[13:30] + MADE[:20] +
                                          NO_DRAWS[:8] + FULL[:5] + SLOW[:4] + [EQUALS, PARTED])


def shown(ledger):
    """All that a ledger shows."""
    return (ledger.way(), ledger.here(), len(ledger), ledger.gains(), ledger.due(), ledger.lead(),
            [ledger.bookings(word) for word in WORDS], [ledger.shifts(word) for word in WORDS],
            ledger.free_branches(), ledger.can_undo, ledger.can_redo, ledger.journal())


def emptied(ledger):
    """What a ledger shows and returns if all that can be redone is redone, and then all is undone."""
    found = [shown(ledger)]
    while ledger.can_redo:
        found.append(ledger.redo())
    while ledger.can_undo:
        found.append(ledger.undo())
    return found + [shown(ledger)]


def slack(game, answer, x, y):
    """The booking and the shift of a step from x to y, in fractions."""
    g = [Fraction(*found) for found in answer[0]]
    h = [Fraction(*found) for found in answer[1]]
    return Fraction(*game[x][0]) + h[y] - g[x] - h[x], g[y] - g[x]


def made_steps(seed, game, start, many):
    """Branches that can be taken one after the other, and the places of their way."""
    dice = Dice(seed + 4400)
    branches, places = [], [start]
    for _ in range(many):
        branches.append(dice.below(len(game[places[-1]][2])))
        places.append(lassos.targets(game[places[-1]])[branches[-1]])
    return branches, places


def made_deeds(seed, game, start, many):
    """Deeds that raise no error: steps, undos and redos."""
    dice = Dice(seed + 8800)
    deeds, places, undone = [], [start], []
    for _ in range(many):
        choice = dice.below(5)
        if choice < 2 and len(places) > 1:
            deeds.append(("undo",))
            undone.append(places.pop())
        elif choice == 2 and undone:
            deeds.append(("redo",))
            places.append(undone.pop())
        else:
            branch = dice.below(len(game[places[-1]][2]))
            deeds.append(("step", branch))
            places.append(lassos.targets(game[places[-1]])[branch])
            undone = []
    return deeds
