"""Ledgers: plays booked step by step against a right answer."""

from meanhold.errors import BadEntry, BadTarget, GainError, NoBranch, NotRight, NothingToRedo, NothingToUndo
from meanhold.exact import ZERO, is_whole, minus, total
from meanhold.games import check_game
from meanhold.means import check_answer
from meanhold.places import gains_of, has_branch, targets_of
from meanhold.slacks import slack_of
from meanhold.swaps import with_gains

WORDS = {"theirs": "gift", "ours": "slip", "draw": "luck"}


class Ledger:
    """A play of a game from a start, booked against a right answer (points 58 to 62)."""

    def __init__(self, game, answer, *, start):
        check_game(game)
        if not check_answer(game, answer):
            raise NotRight()
        if not is_whole(start) or not 0 <= start < len(game):
            raise BadTarget()
        self._game = with_gains(game, gains_of(game))
        self._gains = list(answer[0])
        self._leads = list(answer[1])
        self._places = [start]
        self._way = []
        self._told = []
        self._undone = []
        self._deeds = []

    def __len__(self):
        return len(self._way)

    @property
    def can_undo(self):
        """True if a step is booked."""
        return len(self._way) > 0

    @property
    def can_redo(self):
        """True if a step is taken back that can be booked again."""
        return len(self._undone) > 0

    def step(self, branch):
        """Steps along the branch; returns the tuple of the word, the booking and the shift (point 60)."""
        told = self._book(branch)
        self._undone = []
        self._deeds.append(("step", branch))
        return told

    def undo(self):
        """Takes the last step back; returns its tuple (point 60)."""
        if not self.can_undo:
            raise NothingToUndo()
        self._places.pop()
        self._undone.append(self._way.pop())
        self._deeds.append(("undo",))
        return self._told.pop()

    def redo(self):
        """Books the step again that was taken back last; returns its tuple (point 60)."""
        if not self.can_redo:
            raise NothingToRedo()
        told = self._book(self._undone.pop())
        self._deeds.append(("redo",))
        return told

    def do_all(self, deeds):
        """Does the deeds together, or none of them if one raises an error (point 60)."""
        lists = (self._places, self._way, self._told, self._undone, self._deeds)
        kept = [list(rows) for rows in lists]
        try:
            for deed in deeds:
                _do(self, deed)
        except GainError:
            self._places, self._way, self._told, self._undone, self._deeds = kept
            raise

    def way(self):
        """Returns the list of the branches of the steps that are booked."""
        return list(self._way)

    def here(self):
        """Returns the place at which the play is."""
        return self._places[-1]

    def gains(self):
        """Returns the sum of the gains that were booked (point 59)."""
        return total([self._game[x][0] for x in self._places[:-1]])

    def due(self):
        """Returns the due (point 59)."""
        return total([self._gains[x] for x in self._places[:-1]])

    def lead(self):
        """Returns the lead (point 59)."""
        return minus(self._leads[self._places[0]], self._leads[self.here()])

    def bookings(self, word):
        """Returns the sum of the bookings of all steps with this word."""
        return total([booking for told, booking, _ in self._told if told == word])

    def shifts(self, word):
        """Returns the sum of the shifts of all steps with this word."""
        return total([shift for told, _, shift in self._told if told == word])

    def free_branches(self):
        """Returns the ascending list of the branches here whose booking and shift would both be 0."""
        targets = targets_of(self._game[self.here()])
        return [number for number, target in enumerate(targets) if self._slack_to(target) == (ZERO, ZERO)]

    def journal(self):
        """Returns the list of the deeds that raised no error (point 61)."""
        return list(self._deeds)

    def _book(self, branch):
        place = self._game[self.here()]
        if not has_branch(place, branch):
            raise NoBranch(len(self._way))
        target = targets_of(place)[branch]
        shift, booking = self._slack_to(target)
        self._told.append((WORDS[place[1]], booking, shift))
        self._way.append(branch)
        self._places.append(target)
        return self._told[-1]

    def _slack_to(self, target):
        """The tuple of the shift and the booking of a step from here to the target."""
        here = self.here()
        told = (self._gains[here], self._leads[here])
        return slack_of(self._game[here][0], told, (self._gains[target], self._leads[target]))


def replay(game, answer, journal, *, start):
    """Returns the ledger that replaying the journal makes; raises BadEntry at the first wrong entry (point 61)."""
    ledger = Ledger(game, answer, start=start)
    for at, entry in enumerate(journal):
        try:
            _do(ledger, entry)
        except GainError:
            raise BadEntry(at) from None
    return ledger


def _do(ledger, deed):
    """Does a deed that is told as an entry of a journal."""
    if deed[0] == "step":
        ledger.step(deed[1])
    elif deed[0] == "undo":
        ledger.undo()
    else:
        ledger.redo()
