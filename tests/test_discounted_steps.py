"""Discounted worths of the first steps, and what changes the worths: points 19, 20, 21."""

from fractions import Fraction

from tests import judging
from tests.support import Case, Dice, SINGLE, number, way_on
from tests.worlds import (BEYOND, DISCOUNTS, FULL, GAMES, IDLE, KNOWN, LONG_DISCOUNT, MADE, OF_DISCOUNTS, SINGLES, SLOW,
                          SOME_CHAINS, ours, theirs)

from meanhold.discounts import discounted_worths, rest_of, steps_for, worths_of_steps
from meanhold.means import answer_of

TINY = Fraction(1, 10 ** 70)
# The greatest absolute value of a gain is that of a negative one.
LOSSES = [ours(1, 0, 1), way_on(-3, 0), theirs("5/2", 1, 2)]


def with_gains(game, gains):
    return [(number(gain), kind, branches) for gain, (_, kind, branches) in zip(gains, game)]


def gains_in(game):
    return [Fraction(*place[0]) for place in game]


class WorthsOfSteps(Case):
    def test_told_games(self):
        self.assertEqual(self.asked(worths_of_steps, OF_DISCOUNTS, discount=(1, 2), steps=0), [(0, 1), (0, 1)])
        self.assertEqual(self.asked(worths_of_steps, OF_DISCOUNTS, discount=(1, 2), steps=1), [(1, 1), (3, 1)])
        self.assertEqual(self.asked(worths_of_steps, OF_DISCOUNTS, discount=(1, 2), steps=2), [(5, 2), (7, 2)])
        self.assertEqual(self.asked(worths_of_steps, OF_DISCOUNTS, discount=(1, 2), steps=3), [(11, 4), (17, 4)])
        self.assertEqual(self.asked(worths_of_steps, IDLE, discount=(9, 10), steps=40), [(0, 1)] * 3)

    def test_steps_one_by_one(self):
        for game in KNOWN + SINGLES + SOME_CHAINS + MADE[:15] + FULL[:3]:
            for discount in DISCOUNTS:
                sums = judging.worths_by_steps(game, Fraction(*discount), 5)
                for n in range(6):
                    found = self.all_exact(self.asked(worths_of_steps, game, discount=discount, steps=n))
                    self.assertEqual(found, sums[n])

    def test_forty_steps(self):
        for game in KNOWN + MADE[:8] + FULL[:2]:
            for discount in DISCOUNTS + [LONG_DISCOUNT]:
                found = self.all_exact(self.asked(worths_of_steps, game, discount=discount, steps=40))
                self.assertEqual(found, judging.worths_by_steps(game, Fraction(*discount), 40)[-1])

    def test_beyond_the_limits(self):
        found = self.all_exact(self.asked(worths_of_steps, BEYOND, discount=(100003, 100019), steps=47))
        self.assertEqual(found, judging.worths_by_steps(BEYOND, Fraction(100003, 100019), 47)[-1])

    def test_they_are_never_farther_from_the_worths_than_the_rest(self):
        for game in KNOWN + MADE[:15] + FULL[:3]:
            for discount in DISCOUNTS:
                worths = self.all_exact(discounted_worths(game, discount=discount))
                for n in (0, 1, 2, 7, 40):
                    rest = self.exact(rest_of(game, discount=discount, steps=n))
                    first = self.all_exact(worths_of_steps(game, discount=discount, steps=n))
                    self.assertLessEqual(max(abs(a - b) for a, b in zip(worths, first)), rest)

    def test_the_rest_is_just_reached(self):
        for gain in (Fraction(7, 2), Fraction(-999)):
            game = [way_on(gain, 0)]
            worth = self.exact(discounted_worths(game, discount=(9, 10))[0])
            first = self.exact(worths_of_steps(game, discount=(9, 10), steps=12)[0])
            self.assertEqual(abs(worth - first), self.exact(rest_of(game, discount=(9, 10), steps=12)))


class RestOf(Case):
    def test_told_games(self):
        for steps, rest in [(0, (6, 1)), (1, (3, 1)), (2, (3, 2)), (40, (3, 2 ** 39))]:
            self.assertEqual(self.asked(rest_of, LOSSES, discount=(1, 2), steps=steps), rest)
        self.assertEqual(self.asked(rest_of, SINGLE, discount=(99, 100), steps=0), (350, 1))
        self.assertEqual(self.asked(rest_of, [way_on(2, 1), way_on(-1, 0)], discount=(1, 3), steps=1), (1, 1))

    def test_all_gains_are_nothing(self):
        for discount in DISCOUNTS + [LONG_DISCOUNT]:
            for steps in (0, 1, 2, 40):
                self.assertEqual(self.asked(rest_of, IDLE, discount=discount, steps=steps), (0, 1))

    def test_games_of_all_sorts(self):
        for game in GAMES[:60] + FULL + [BEYOND]:
            most = max(abs(gain) for gain in gains_in(game))
            for discount in DISCOUNTS + [LONG_DISCOUNT]:
                d = Fraction(*discount)
                for steps in (0, 1, 2, 3, 17, 40, 44):
                    found = self.exact(self.asked(rest_of, game, discount=discount, steps=steps))
                    self.assertEqual(found, d ** steps * most / (1 - d))


class StepsFor(Case):
    def test_told_games(self):
        for error, steps in [((6, 1), 0), ((7, 1), 0), ((5, 1), 1), ((3, 1), 1), ((3, 2), 2), ((1, 1), 3),
                             ((3, 2 ** 39), 40), ((3, 2 ** 38), 39), ((1, 2 ** 37), 40), ((1, 2 ** 38), None)]:
            self.assertEqual(self.asked(steps_for, LOSSES, discount=(1, 2), error=error), steps)

    def test_no_steps_where_all_gains_are_nothing(self):
        for discount in DISCOUNTS:
            self.assertEqual(self.asked(steps_for, IDLE, discount=discount, error=(1, 10 ** 90)), 0)

    def test_just_the_rest_and_a_little_off(self):
        for game in (LOSSES, SINGLE, FULL[0], FULL[1]):
            for discount in DISCOUNTS + [LONG_DISCOUNT]:
                for steps in (0, 1, 2, 23, 39, 40):
                    rest = rest_of(game, discount=discount, steps=steps)
                    less = number(self.exact(rest) - TINY * self.exact(rest))
                    more = number(self.exact(rest) + TINY * self.exact(rest))
                    self.assertEqual(self.asked(steps_for, game, discount=discount, error=rest), steps)
                    self.assertEqual(steps_for(game, discount=discount, error=less), steps + 1 if steps < 40 else None)
                    self.assertEqual(steps_for(game, discount=discount, error=more), steps)

    def test_an_error_of_long_numbers(self):
        self.assertEqual(self.asked(steps_for, LOSSES, discount=(1, 2), error=(10 ** 50 + 1, 10 ** 50)), 3)
        self.assertEqual(self.asked(steps_for, LOSSES, discount=(1, 2), error=(3 * 10 ** 50 - 1, 10 ** 50)), 2)
        self.assertEqual(self.asked(steps_for, LOSSES, discount=(1, 2), error=(3 * 10 ** 50 + 1, 10 ** 50)), 1)
        self.assertEqual(self.asked(steps_for, LOSSES, discount=(99, 100), error=(10 ** 80, 7)), 0)
        self.assertIsNone(self.asked(steps_for, LOSSES, discount=(100003, 100019), error=(10 ** 30, 10 ** 29 + 1)))


class ChangesOfGains(Case):
    def test_greater_gains(self):
        changed = 0
        for seed, game in enumerate(KNOWN + MADE[:20] + FULL[:3]):
            dice = Dice(seed)
            for discount in DISCOUNTS:
                others = [gain + Fraction(dice.below(3) * dice.below(9), 4) for gain in gains_in(game)]
                before = self.all_exact(discounted_worths(game, discount=discount))
                behind = self.all_exact(discounted_worths(with_gains(game, others), discount=discount))
                self.assertTrue(all(a <= b for a, b in zip(before, behind)))
                changed += before != behind
        self.assertGreater(changed, 100)

    def test_a_number_added_to_all_gains(self):
        for game in KNOWN + MADE[:15] + FULL[:3]:
            for discount in DISCOUNTS:
                for added in (Fraction(3), Fraction(-7, 4)):
                    other = with_gains(game, [gain + added for gain in gains_in(game)])
                    self.assertEqual(self.all_exact(discounted_worths(other, discount=discount)),
                                     [worth + added / (1 - Fraction(*discount))
                                      for worth in self.all_exact(discounted_worths(game, discount=discount))])

    def test_gains_multiplied_by_a_number_greater_than_0(self):
        for game in KNOWN + MADE[:15] + FULL[:3]:
            for discount in DISCOUNTS:
                for factor in (Fraction(3), Fraction(2, 7)):
                    other = with_gains(game, [gain * factor for gain in gains_in(game)])
                    self.assertEqual(self.all_exact(discounted_worths(other, discount=discount)),
                                     [worth * factor
                                      for worth in self.all_exact(discounted_worths(game, discount=discount))])


class NearTheValues(Case):
    def test_how_far_the_worths_are_from_the_values(self):
        for game in GAMES + SLOW:
            gains, leads, _, _ = answer_of(game)
            wide = max(self.all_exact(leads)) - min(self.all_exact(leads))
            for discount in DISCOUNTS + [LONG_DISCOUNT]:
                rest = 1 - Fraction(*discount)
                for g, worth in zip(self.all_exact(gains), self.all_exact(discounted_worths(game, discount=discount))):
                    self.assertLessEqual(abs(worth * rest - g), wide * rest)
