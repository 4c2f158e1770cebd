"""Ledgers and what they book: points 58 and 59, and what the constructor raises."""

from fractions import Fraction

from tests.booked import ANSWER, BOOKS, OF_LEDGERS, PARTED, WORD_OF, WORDS, made_steps, shown, slack
from tests.lassos import targets
from tests.support import TWO_STAYS, Case, draw, moved, number, way_on
from tests.worlds import BEYOND, ours, theirs

from meanhold.errors import BadChance, BadKind, BadNumber, BadSize, BadTarget, NotRight
from meanhold.ledger import Ledger, replay
from meanhold.means import answer_of

TINY = Fraction(1, 10 ** 60)


class WhatTheConstructorRaises(Case):
    def refuses(self, error, game, answer, start):
        self.refused(error, Ledger, game, answer, start=start)
        self.refused(error, replay, game, answer, [("redo",), ("step", 99)], start=start)

    def test_what_check_game_raises_comes_first(self):
        for error, game in [(BadSize, []), (BadSize, [way_on(0, 0)] * 13), (BadSize, BEYOND),
                            (BadNumber, [((1000, 1), "ours", [0])]), (BadKind, [((1, 1), "mine", [0])]),
                            (BadChance, [draw(1, ("1/2", 0))]), (BadTarget, [ours(1, 1)]),
                            (BadTarget, [((1, 1), "theirs", [True])]), (BadSize, [ours(1)])]:
            for answer in [ANSWER, ([], [], [], [])]:
                for start in (0, -1, None):
                    self.refuses(error, game, answer, start)

    def test_answers_that_are_not_right(self):
        gains, leads, told, other = ANSWER
        for answer in [(gains[:1], leads, told, other), (gains + gains[:1], leads, told, other),
                       (gains, leads[:1], told, other), (gains, leads + [(0, 1)], told, other),
                       (gains, leads, told[:1], other), (gains, leads, told + [None], other),
                       (gains, leads, told, other[:1]), (gains, leads, told, other + [None]), ([], [], [], []),
                       (gains, leads, [0, None], other), (gains, leads, [None, None], other),
                       (gains, leads, [2, None], other), (gains, leads, [-1, None], other),
                       (gains, leads, [True, None], other), (gains, leads, [1, 0], other),
                       (gains, leads, told, [0, None]), (gains, leads, told, [None, 0]), (leads, gains, told, other)]:
            for start in (0, 2, True):
                self.refuses(NotRight, OF_LEDGERS, answer, start)

    def test_one_inequality_is_broken(self):
        for which in (0, 1):
            for x in (0, 1):
                for by in (TINY, -TINY):
                    self.refuses(NotRight, OF_LEDGERS, moved(ANSWER[:2], which, x, by) + ANSWER[2:], 1)
        for game, answer in BOOKS[1:12]:
            for x in range(len(game)):
                # All values are as they are, so no other gains are right.
                for by in (TINY, -1):
                    self.refuses(NotRight, game, moved(answer[:2], 0, x, by) + answer[2:], 0)

    def test_starts_that_are_no_places(self):
        for start in (True, False, -1, 2, 99, 10 ** 40, -10 ** 40, None, "0", "", (0,), (0, 1), [0], 0.0, 1.0, b"0"):
            self.refuses(BadTarget, OF_LEDGERS, ANSWER, start)
        for game, answer in BOOKS:
            self.refuses(BadTarget, game, answer, len(game))
            for start in range(len(game)):
                self.assertEqual(Ledger(game, answer, start=start).here(), start)


class EmptyLedgers(Case):
    def test_what_they_show(self):
        for game, answer in BOOKS:
            for start in range(len(game)):
                ledger = Ledger(game, answer, start=start)
                free = [k for k, y in enumerate(targets(game[start])) if slack(game, answer, start, y) == (0, 0)]
                self.assertEqual(shown(ledger), ([], start, 0, (0, 1), (0, 1), (0, 1), [(0, 1)] * 3, [(0, 1)] * 3,
                                                 free, False, False, []))


class Bookings(Case):
    def test_a_told_play(self):
        ledger = Ledger(OF_LEDGERS, ANSWER, start=0)
        self.assertEqual([ledger.step(branch) for branch in (1, 1, 0, 0)],
                         [("slip", (0, 1), (0, 1)), ("luck", (2, 3), (0, 1)), ("luck", (-2, 3), (0, 1)),
                          ("slip", (-4, 3), (0, 1))])
        self.assertEqual(shown(ledger), ([1, 1, 0, 0], 0, 4, (4, 1), (16, 3), (0, 1), [(0, 1), (-4, 3), (0, 1)],
                                         [(0, 1)] * 3, [1], True, False,
                                         [("step", 1), ("step", 1), ("step", 0), ("step", 0)]))

    def test_shifts_of_told_plays(self):
        ledger = Ledger(PARTED, answer_of(PARTED), start=1)
        told = [ledger.step(branch) for branch in (1, 1, 1, 0)]
        self.assertEqual([(word, shift) for word, _, shift in told],
                         [("gift", (3, 1)), ("luck", (0, 1)), ("slip", (-1, 2)), ("luck", (0, 1))])
        self.assertEqual([ledger.shifts(word) for word in WORDS], [(3, 1), (-1, 2), (0, 1)])
        for branch, shift in [(0, (6, 1)), (1, (-3, 1))]:
            ledger = Ledger(TWO_STAYS, answer_of(TWO_STAYS), start=0)
            word, _, told = ledger.step(branch)
            self.assertEqual((word, told, ledger.shifts("luck"), ledger.shifts("slip")), ("luck", shift, shift, (0, 1)))

    def numbers(self, ledger):
        """The gains, the due, the lead, the sum of all bookings and that of all shifts."""
        bookings = [self.exact(self.asked(ledger.bookings, word)) for word in WORDS]
        shifts = [self.exact(self.asked(ledger.shifts, word)) for word in WORDS]
        sums = [self.exact(self.asked(told)) for told in (ledger.gains, ledger.due, ledger.lead)]
        return sums + [sum(bookings), sum(shifts)]

    def test_steps_by_the_tests_own_sums(self):
        for seed, (game, answer) in enumerate(BOOKS):
            g, h = [[Fraction(*found) for found in row] for row in answer[:2]]
            start = seed % len(game)
            branches, places = made_steps(seed, game, start, 25)
            ledger = Ledger(game, answer, start=start)
            sums = {word: [0, 0] for word in WORDS}
            for k, (branch, x, y) in enumerate(zip(branches, places, places[1:])):
                word = WORD_OF[game[x][1]]
                booking, shift = slack(game, answer, x, y)
                self.assertEqual(ledger.step(branch), (word, number(booking), number(shift)))
                sums[word] = [sums[word][0] + booking, sums[word][1] + shift]
                self.assertEqual((ledger.way(), ledger.here(), len(ledger)), (branches[:k + 1], y, k + 1))
                for told in WORDS:
                    self.assertEqual(ledger.bookings(told), number(sums[told][0]))
                    self.assertEqual(ledger.shifts(told), number(sums[told][1]))
                left = places[:k + 1]
                self.assertEqual(self.numbers(ledger)[:3], [sum(Fraction(*game[z][0]) for z in left),
                                                            sum(g[z] for z in left), h[start] - h[y]])

    def test_all_is_told_behind_each_step(self):
        for seed, (game, answer) in enumerate(BOOKS):
            start = seed % len(game)
            ledger = Ledger(game, answer, start=start)
            for branch in made_steps(seed + 1, game, start, 12)[0]:
                ledger.step(branch)
                gains, due, lead, bookings, shifts = self.numbers(ledger)
                self.assertEqual(gains, due + lead + bookings)
                self.assertEqual(Fraction(*answer[0][ledger.here()]), Fraction(*answer[0][start]) + shifts)

    def test_signs_of_bookings_and_shifts(self):
        nothing = 0
        for game, answer in BOOKS:
            for x, (_, kind, branches) in enumerate(game):
                told = [Ledger(game, answer, start=x).step(k) for k in range(len(branches))]
                self.assertTrue(all(type(found) is tuple and len(found) == 3 for found in told))
                self.assertEqual({word for word, _, _ in told}, {WORD_OF[kind]})
                pairs = [(self.exact(booking), self.exact(shift)) for _, booking, shift in told]
                if kind == "draw":
                    chances = [Fraction(*chance) for chance, _ in branches]
                    self.assertEqual([sum(c * pair[k] for c, pair in zip(chances, pairs)) for k in (0, 1)], [0, 0])
                else:
                    sign = -1 if kind == "ours" else 1
                    self.assertTrue(all(sign * a >= 0 and sign * b >= 0 for a, b in pairs))
                    chosen = answer[2][x] if kind == "ours" else answer[3][x]
                    self.assertEqual(pairs[chosen], (0, 0))
                    nothing += pairs.count((0, 0)) < len(pairs)
        self.assertGreater(nothing, 50)


class FreeBranches(Case):
    def test_told_games(self):
        self.assertEqual(self.asked(Ledger(OF_LEDGERS, ANSWER, start=0).free_branches), [1])
        self.assertEqual(self.asked(Ledger(OF_LEDGERS, ANSWER, start=1).free_branches), [])
        game = [draw(3, ("1/3", 0), ("1/3", 1), ("1/3", 0)), theirs(3, 1, 2, 1), ours(3, 0, 2, 1)]
        answer = ([(3, 1)] * 3, [(0, 1)] * 3, [None, None, 0], [None, 0, None])
        for start in range(3):
            self.assertEqual(self.asked(Ledger(game, answer, start=start).free_branches), [0, 1, 2])
        game = [draw(0, ("1/4", 1), ("1/4", 2), ("1/4", 2), ("1/4", 3)), way_on(1, 4), way_on(0, 4), way_on(-1, 4),
                way_on(0, 0)]
        self.assertEqual(self.asked(Ledger(game, answer_of(game), start=0).free_branches), [1, 2])

    def test_branches_that_would_book_nothing(self):
        several = 0
        for seed, (game, answer) in enumerate(BOOKS):
            start = seed % len(game)
            ledger = Ledger(game, answer, start=start)
            branches, places = made_steps(seed + 2, game, start, 15)
            for branch, x in zip(branches, places):
                told = [k for k, y in enumerate(targets(game[x])) if slack(game, answer, x, y) == (0, 0)]
                self.assertEqual(self.asked(ledger.free_branches), told)
                several += 1 < len(told) < len(game[x][2])
                ledger.step(branch)
        self.assertGreater(several, 10)
