"""Deeds of ledgers: steps, undos and redos, several together, journals and replaying: points 60, 61 and 62."""

import inspect
from copy import deepcopy

from tests.booked import ANSWER, BOOKS, OF_LEDGERS, PARTED, emptied, made_deeds, made_steps, shown
from tests.support import Case, Dice

from meanhold.errors import BadEntry, BadTarget, NoBranch, NotRight, NothingToRedo, NothingToUndo
from meanhold.ledger import Ledger, replay
from meanhold.means import answer_of

NO_BRANCHES = [-1, 6, 99, 10 ** 40, -10 ** 40, True, False]
FEW_BOOKS = BOOKS[:25]


def done(game, answer, start, deeds):
    """A ledger on which the deeds were done one by one."""
    ledger = Ledger(game, answer, start=start)
    for deed in deeds:
        getattr(ledger, deed[0])(*deed[1:])
    return ledger


class DeedCase(Case):
    def stays_as_it_was(self, ledger, twin, error, function, *args):
        """The error of a deed, after it has been looked at that the ledger is as before, and as its twin."""
        before = shown(ledger)
        found = self.refused(error, function, *args)
        self.assertEqual(shown(ledger), before)
        self.assertEqual(emptied(ledger), emptied(twin))
        return found


class Steps(DeedCase):
    def test_no_such_branch(self):
        for seed, (game, answer) in enumerate(FEW_BOOKS):
            start = seed % len(game)
            deeds = made_deeds(seed, game, start, seed % 9)
            for branch in NO_BRANCHES + [len(game[done(game, answer, start, deeds).here()][2])]:
                ledger, twin = [done(game, answer, start, deeds) for _ in range(2)]
                many = len(twin)
                error = self.stays_as_it_was(ledger, twin, NoBranch, ledger.step, branch)
                self.assertEqual(error.at, many)

    def test_the_number_of_booked_steps(self):
        ledger = Ledger(OF_LEDGERS, ANSWER, start=0)
        for k in range(5):
            self.assertEqual(self.refused(NoBranch, ledger.step, 2).at, k)
            ledger.step(1)
        ledger.undo()
        ledger.undo()
        self.assertEqual(self.refused(NoBranch, ledger.step, -1).at, 3)
        self.assertTrue(ledger.can_redo)

    def test_a_step_takes_away_what_could_be_redone(self):
        ledger = done(OF_LEDGERS, ANSWER, 0, [("step", 1), ("step", 0), ("undo",), ("undo",)])
        self.assertIs(ledger.can_redo, True)
        ledger.step(0)
        self.assertIs(ledger.can_redo, False)
        self.refused(NothingToRedo, ledger.redo)
        ledger.undo()
        self.assertEqual(ledger.redo(), ("slip", (-4, 3), (0, 1)))
        self.refused(NothingToRedo, ledger.redo)


class BackAndForth(DeedCase):
    def test_properties(self):
        for word in ("can_undo", "can_redo"):
            self.assertIsInstance(inspect.getattr_static(Ledger, word), property)
        ledger = Ledger(OF_LEDGERS, ANSWER, start=0)
        for deed, undo, redo in [(None, False, False), (("step", 1), True, False), (("step", 1), True, False),
                                 (("undo",), True, True), (("undo",), False, True), (("redo",), True, True),
                                 (("redo",), True, False)]:
            if deed:
                getattr(ledger, deed[0])(*deed[1:])
            self.assertIs(ledger.can_undo, undo)
            self.assertIs(ledger.can_redo, redo)

    def test_nothing_to_undo_and_nothing_to_redo(self):
        for game, answer in FEW_BOOKS:
            ledger, twin = Ledger(game, answer, start=0), Ledger(game, answer, start=0)
            self.stays_as_it_was(ledger, twin, NothingToUndo, ledger.undo)
            self.stays_as_it_was(ledger, twin, NothingToRedo, ledger.redo)
            ledger, twin = [done(game, answer, 0, [("step", 0), ("undo",)]) for _ in range(2)]
            self.stays_as_it_was(ledger, twin, NothingToUndo, ledger.undo)
            ledger, twin = [done(game, answer, 0, [("step", 0)]) for _ in range(2)]
            self.stays_as_it_was(ledger, twin, NothingToRedo, ledger.redo)

    def test_all_steps_back_and_forth(self):
        for seed, (game, answer) in enumerate(BOOKS):
            start = seed % len(game)
            branches, _ = made_steps(seed + 3, game, start, 12)
            ledger = Ledger(game, answer, start=start)
            states, told = [shown(ledger)], []
            for branch in branches:
                told.append(ledger.step(branch))
                states.append(shown(ledger))
            for k in range(11, -1, -1):
                self.assertEqual(ledger.undo(), told[k])
                self.assertEqual(shown(ledger)[:9], states[k][:9])
            self.assertEqual(ledger.here(), start)
            for k in range(12):
                self.assertEqual(ledger.redo(), told[k])
                self.assertEqual(shown(ledger)[:9], states[k + 1][:9])
            self.assertEqual(ledger.journal(),
                             [("step", branch) for branch in branches] + [("undo",)] * 12 + [("redo",)] * 12)


class DoAll(DeedCase):
    def test_all_deeds_one_by_one_or_together(self):
        for seed, (game, answer) in enumerate(BOOKS):
            start = seed % len(game)
            deeds = made_deeds(seed + 1, game, start, 30)
            told = [ledger_of_parts(game, answer, start, deeds, cut) for cut in (0, 1, 13, 29, 30)]
            for ledger in told:
                self.assertEqual(ledger.journal(), deeds)
            expected = emptied(done(game, answer, start, deeds))
            for ledger in told:
                self.assertEqual(emptied(ledger), expected)

    def test_it_returns_none_and_an_empty_list_does_nothing(self):
        ledger = done(OF_LEDGERS, ANSWER, 0, [("step", 1), ("step", 1), ("undo",)])
        before = shown(ledger)
        self.assertIsNone(ledger.do_all([]))
        self.assertEqual(shown(ledger), before)
        self.assertIs(ledger.can_redo, True)
        self.assertIsNone(ledger.do_all([("redo",), ("step", 0)]))
        self.assertEqual(ledger.way(), [1, 1, 0])
        self.assertEqual(ledger.undo(), ("luck", (-2, 3), (0, 1)))
        self.assertEqual(ledger.way(), [1, 1])

    def test_a_wrong_deed_at_each_place(self):
        for seed, (game, answer) in enumerate(FEW_BOOKS):
            start = seed % len(game)
            before = made_deeds(seed + 2, game, start, 9)
            # These deeds go on from where the first ones end.
            deeds = made_deeds(seed, game, done(game, answer, start, before).here(), 6)
            for at in range(7):
                ledger, twin, other = [done(game, answer, start, before) for _ in range(3)]
                other.do_all(deeds[:at])
                wrong = ("step", NO_BRANCHES[(seed + at) % len(NO_BRANCHES)])
                error = self.stays_as_it_was(ledger, twin, NoBranch, ledger.do_all, deeds[:at] + [wrong] + deeds[at:])
                self.assertEqual(error.at, len(other))

    def test_wrong_undos_and_redos(self):
        before = [("step", 1), ("step", 0), ("step", 1), ("undo",)]
        for error, deeds in [(NothingToUndo, [("undo",)] * 3), (NothingToRedo, [("redo",)] * 2),
                             (NothingToRedo, [("undo",), ("step", 0), ("redo",)]),
                             (NothingToUndo, [("step", 1)] + [("undo",)] * 4 + [("step", 1)]),
                             (NothingToRedo, [("undo",), ("redo",), ("redo",), ("redo",), ("undo",)]),
                             (NoBranch, [("undo",), ("undo",), ("step", 2)]),
                             (NoBranch, [("step", 1), ("step", True)])]:
            ledger, twin = [done(OF_LEDGERS, ANSWER, 0, before) for _ in range(2)]
            self.stays_as_it_was(ledger, twin, error, ledger.do_all, deeds)

    def test_a_ledger_goes_on_behind_a_wrong_deed(self):
        ledger = done(OF_LEDGERS, ANSWER, 0, [("step", 1), ("step", 0), ("undo",)])
        self.refused(NoBranch, ledger.do_all, [("step", 1), ("step", 1), ("undo",), ("step", 7)])
        self.assertEqual(ledger.redo(), ("luck", (-2, 3), (0, 1)))
        ledger.do_all([("undo",), ("step", 1)])
        self.assertEqual(ledger.journal(), [("step", 1), ("step", 0), ("undo",), ("redo",), ("undo",), ("step", 1)])


def ledger_of_parts(game, answer, start, deeds, cut):
    """A ledger on which the deeds up to the cut were done together, and then the rest."""
    ledger = Ledger(game, answer, start=start)
    ledger.do_all(deeds[:cut])
    ledger.do_all(deeds[cut:])
    return ledger


class Replay(DeedCase):
    def test_the_replayed_ledger_shows_the_same(self):
        for seed, (game, answer) in enumerate(BOOKS):
            start = seed % len(game)
            ledger = done(game, answer, start, made_deeds(seed + 4, game, start, 40))
            journal = ledger.journal()
            kept = deepcopy((game, answer, journal))
            other, third = [replay(game, answer, journal, start=start) for _ in range(2)]
            self.assertIs(type(other), Ledger)
            self.assertEqual((game, answer, journal), kept)
            self.assertEqual(shown(other), shown(ledger))
            expected = emptied(ledger)
            # What is done with one of the ledgers changes nothing of another one.
            self.assertEqual(emptied(other), expected)
            self.assertEqual(emptied(third), expected)
        self.assertEqual(shown(replay(OF_LEDGERS, ANSWER, [], start=1)), shown(Ledger(OF_LEDGERS, ANSWER, start=1)))

    def test_the_first_wrong_entry(self):
        journal = [("step", 1), ("step", 0), ("undo",), ("redo",), ("undo",), ("undo",)]
        for at in range(7):
            for wrong in (("step", 2), ("step", -1), ("step", True), ("step", False), ("step", 10 ** 40)):
                told = journal[:at] + [wrong, ("step", 99)] + journal[at:]
                error = self.refused(BadEntry, replay, OF_LEDGERS, ANSWER, told, start=0)
                self.assertEqual(error.place, at)
        for told, at in [([("undo",)], 0), ([("redo",)], 0), (journal + [("undo",)], 6), (journal + [("redo",)] * 3, 8),
                         (journal + [("redo",)] * 2 + [("step", 0), ("redo",), ("undo",)], 9),
                         ([("step", 0), ("redo",), ("step", 5)], 1)]:
            self.assertEqual(self.refused(BadEntry, replay, OF_LEDGERS, ANSWER, told, start=0).place, at)

    def test_what_the_constructor_raises_comes_first(self):
        for journal in ([("undo",)], [("step", 0)], []):
            self.refused(BadTarget, replay, OF_LEDGERS, ANSWER, journal, start=2)
            self.refused(BadTarget, replay, OF_LEDGERS, ANSWER, journal, start=True)
            self.refused(NotRight, replay, OF_LEDGERS, ANSWER[:2] + ([0, None], [None, None]), journal, start=0)
            self.refused(NotRight, replay, OF_LEDGERS, ANSWER[:2] + ([0, None], [None, None]), journal, start=7)


class ChangesBehindTheCall(DeedCase):
    def spoil(self, value):
        """Changes all lists within a value, the inner ones first."""
        for item in value:
            if isinstance(item, (list, tuple)):
                self.spoil(item)
        if isinstance(value, list):
            value[:] = ["spoilt"]

    def test_what_was_handed_in(self):
        for seed, (game, answer) in enumerate(BOOKS[:40] + [(PARTED, answer_of(PARTED))]):
            start = seed % len(game)
            deeds = made_deeds(seed + 5, game, start, 20)
            expected = emptied(done(game, answer, start, deeds))
            mine = deepcopy([game, answer, deeds])
            ledger = Ledger(mine[0], mine[1], start=start)
            self.spoil(mine[:2])
            ledger.do_all(mine[2])
            self.spoil(mine)
            self.assertEqual(emptied(ledger), expected)
            mine = deepcopy([game, answer, deeds])
            ledger = replay(mine[0], mine[1], mine[2], start=start)
            self.spoil(mine)
            self.assertEqual(emptied(ledger), expected)

    def test_it_is_not_modified(self):
        for seed, (game, answer) in enumerate(BOOKS):
            start = seed % len(game)
            deeds = made_deeds(seed + 6, game, start, 20)
            kept = deepcopy((game, answer, deeds))
            ledger = Ledger(game, answer, start=start)
            ledger.do_all(deeds)
            emptied(ledger)
            self.assertEqual((game, answer, deeds), kept)

    def test_what_was_returned(self):
        for seed, (game, answer) in enumerate(BOOKS):
            start = seed % len(game)
            ledger = done(game, answer, start, made_deeds(seed + 7, game, start, 8 + Dice(seed).below(9)))
            before = shown(ledger)
            for function in (ledger.way, ledger.journal, ledger.free_branches):
                self.asked(function)
                function().append(0)
                function().clear()
                self.assertEqual(shown(ledger), before)
            twin = done(game, answer, start, ledger.journal())
            self.spoil(list(before))
            self.assertEqual(emptied(ledger), emptied(twin))
