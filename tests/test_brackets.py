"""Brackets, how near the worths of n steps come to the values, and steps to an amount: points 35 and 36."""

from fractions import Fraction

from tests import judging
from tests.support import Case, draw, number, way_on
from tests.worlds import BEYOND, FULL, GAMES, KNOWN, MADE, SINGLES, SMALL, SOME_CHAINS, ours, theirs

from meanhold.means import answer_of, values
from meanhold.rounds import bracket, steps_to, worths

OF_ROUNDS = [ours(3, 0, 1), theirs(0, 0, 2), draw(5, ("1/2", 0), ("1/2", 2))]
TINY = Fraction(1, 10 ** 60)


class Bracket(Case):
    def ends(self, game, steps):
        found = self.asked(bracket, game, steps)
        self.assertIs(type(found), tuple)
        self.assertEqual(len(found), 2)
        return self.exact(found[0]), self.exact(found[1])

    def test_told_games(self):
        self.assertEqual(self.asked(bracket, OF_ROUNDS, 0), ((0, 1), (5, 1)))
        self.assertEqual(self.asked(bracket, OF_ROUNDS, 1), ((3, 1), (4, 1)))
        self.assertEqual(self.asked(bracket, [theirs("-7/3", 0, 0)], 30), ((-7, 3), (-7, 3)))

    def test_by_the_tests_own_sums(self):
        for game in GAMES + [BEYOND]:
            sums = judging.worths_by_steps(game, 1, 31)
            for steps in (0, 1, 2, 30):
                rises = [b - a for a, b in zip(sums[steps], sums[steps + 1])]
                self.assertEqual(self.ends(game, steps), (min(rises), max(rises)))

    def test_all_values_lie_in_it(self):
        for game in GAMES + [BEYOND]:
            told = self.all_exact(values(game))
            for steps in (0, 1, 30):
                low, high = self.ends(game, steps)
                self.assertLessEqual(low, min(told))
                self.assertLessEqual(max(told), high)

    def test_it_is_never_wider_with_a_step_more(self):
        for game in KNOWN + SINGLES + SOME_CHAINS + MADE[:20] + FULL[:5]:
            ends = [[self.exact(end) for end in bracket(game, steps)] for steps in range(31)]
            for (low, high), (lower, higher) in zip(ends, ends[1:]):
                self.assertLessEqual(low, lower)
                self.assertLessEqual(higher, high)


class NearTheValues(Case):
    def test_worths_lie_between_what_an_answer_tells(self):
        for game in GAMES + [BEYOND]:
            gains, leads, _, _ = answer_of(game)
            g, h = self.all_exact(gains), self.all_exact(leads)
            for steps in (0, 1, 2, 30):
                for x, worth in enumerate(self.all_exact(worths(game, steps))):
                    self.assertLessEqual(steps * g[x] + h[x] - max(h), worth)
                    self.assertLessEqual(worth, steps * g[x] + h[x] - min(h))


class StepsTo(Case):
    def test_told_games(self):
        for amount, steps in [((0, 1), 0), ((-1, 10 ** 50), 0), ((-999, 1), 0), ((1, 10 ** 50), 1), ((5, 1), 1),
                              ((51, 10), 2), ((9, 1), 2), ((25, 2), 3), ((10 ** 50, 1), None)]:
            self.assertEqual(self.asked(steps_to, OF_ROUNDS, 2, amount), steps)
        self.assertEqual(self.asked(steps_to, OF_ROUNDS, 1, (1, 1)), 2)

    def test_the_worths_go_up_and_down(self):
        game = [way_on(4, 1), way_on(-3, 2), way_on(-5, 3), way_on(6, 4), way_on(-1, 0)]
        self.assertEqual([worth[0] for worth in [worths(game, steps)[0] for steps in range(10)]],
                         [0, 4, 1, -4, 2, 1, 5, 2, -3, 3])
        for amount, steps in [(0, 0), (1, 1), (4, 1), ("41/10", 6), (5, 6), ("51/10", 11), (6, 11)]:
            self.assertEqual(self.asked(steps_to, game, 0, number(amount)), steps)
        self.assertEqual(self.asked(steps_to, game, 1, (-1, 1)), 0)
        self.assertEqual(self.asked(steps_to, game, 1, (1, 1)), 5)

    def test_at_the_limit(self):
        for amount, steps in [((29, 1), 29), ((30, 1), 30), ((291, 10), 30), ((301, 10), None), ((31, 1), None),
                              ((30 * 10 ** 40 + 1, 10 ** 40), None), ((30 * 10 ** 40 - 1, 10 ** 40), 30)]:
            self.assertEqual(self.asked(steps_to, [draw(1, ("1/2", 0), ("1/2", 0))], 0, amount), steps)
        for gain in (0, -1):
            self.assertEqual(self.asked(steps_to, [ours(gain, 0)], 0, (0, 1)), 0)
            self.assertIsNone(self.asked(steps_to, [ours(gain, 0)], 0, (1, 10 ** 9)))

    def test_amounts_that_are_just_met_and_a_little_off(self):
        for game in KNOWN + SINGLES + SMALL[:20] + MADE[:12] + FULL[:3]:
            sums = judging.worths_by_steps(game, 1, 30)
            for x in range(len(game)):
                for steps in (0, 1, 2, 15, 30):
                    for off in (0, TINY, -TINY):
                        amount = sums[steps][x] + off
                        told = [n for n in range(31) if sums[n][x] >= amount]
                        found = steps_to(game, x, number(amount))
                        self.assertEqual(found, told[0] if told else None)

    def test_beyond_the_limits(self):
        sums = judging.worths_by_steps(BEYOND, 1, 30)
        for x in range(len(BEYOND)):
            told = [n for n in range(31) if sums[n][x] >= sums[30][x]]
            self.assertEqual(self.asked(steps_to, BEYOND, x, number(sums[30][x])), told[0])
