"""What is sure and what can be hoped for: points 45 to 48."""

from fractions import Fraction

from tests import judging, lassos
from tests.support import Case, Dice, draw, made_strategy, way_on
from tests.worlds import (BEYOND, FULL, GAMES, KNOWN, MADE, NO_DRAWS, ONE_SIDED, SINGLES, SLOW, SMALL, SOME_CHAINS,
                          ours, theirs)

from meanhold.means import answer_of, values
from meanhold.surely import (against_us, bands, firm_places, for_us, hoped_gains, sure_gains, sure_gains_of,
                             sure_strategy)

OF_BANDS = [ours(0, 1, 2), draw(1, ("1/2", 1), ("1/2", 2)), way_on(0, 1)]
TARGETS_TWICE = [draw("1/3", ("1/6", 1), ("1/2", 0), ("1/3", 1)), ours(-999, 1, 0, 1), theirs(4, 2, 0)]
# Chance decides between two places that stay, of which one is firm whatever it does.
MIXED = [draw(5, ("998/999", 1), ("1/999", 2)), way_on(3, 1), ours(-7, 2, 2), draw(9, ("1/4", 3), ("3/4", 3)),
         theirs(0, 3, 0), ours("1/2", 3, 4)]
FEW_PLAYS = [game for game in SMALL + KNOWN + [OF_BANDS, TARGETS_TWICE, MIXED] + SOME_CHAINS
             if lassos.plays(game) < 3000]
ALL = GAMES + SLOW + [OF_BANDS, TARGETS_TWICE, MIXED, BEYOND]


class TurnedDraws(Case):
    def test_told_games(self):
        for function, side in ((against_us, "theirs"), (for_us, "ours")):
            self.assertEqual(self.asked(function, TARGETS_TWICE),
                             [((1, 3), side, [1, 0, 1]), ((-999, 1), "ours", [1, 0, 1]), ((4, 1), "theirs", [2, 0])])
            self.assertEqual(self.asked(function, [way_on("7/2", 0)]), [((7, 2), side, [0])])
            self.assertEqual(self.asked(function, [draw(0, ("1/2", 0), ("1/2", 0))]), [((0, 1), side, [0, 0])])

    def test_games_of_all_sorts(self):
        for function, side in ((against_us, "theirs"), (for_us, "ours")):
            for game in ALL:
                found = self.asked(function, game)
                self.assertEqual((type(found), len(found)), (list, len(game)))
                for place, other in zip(found, game):
                    self.assertIs(type(place), tuple)
                    kind = side if other[1] == "draw" else other[1]
                    self.assertEqual(place, (other[0], kind, lassos.targets(other)))


class SureAndHoped(Case):
    def test_told_games(self):
        self.assertEqual(self.asked(bands, OF_BANDS), [((1, 2), (2, 3), (1, 1))] * 3)
        self.assertEqual(self.asked(sure_gains, MIXED), [(-7, 1), (3, 1), (-7, 1), (9, 1), (-7, 1), (9, 1)])
        self.assertEqual(self.asked(hoped_gains, MIXED), [(3, 1), (3, 1), (-7, 1), (9, 1), (3, 1), (9, 1)])
        self.assertEqual(self.asked(firm_places, MIXED), [1, 2, 3, 5])
        self.assertEqual(self.asked(firm_places, OF_BANDS), [])
        self.assertEqual(self.asked(bands, [draw(-999, ("1/3", 0), ("2/3", 0))]), [((-999, 1),) * 3])
        self.assertEqual(self.asked(firm_places, [draw(-999, ("1/3", 0), ("2/3", 0))]), [0])

    def test_by_all_choices(self):
        self.assertGreater(len(FEW_PLAYS), 50)
        for game in FEW_PLAYS:
            self.assertEqual(self.all_exact(self.asked(sure_gains, game)), lassos.sure_gains(game))
            self.assertEqual(self.all_exact(self.asked(hoped_gains, game)), lassos.hoped_gains(game))

    def test_bands_and_firm_places(self):
        parted = 0
        for game in ALL:
            found = self.asked(bands, game)
            self.assertTrue(all(type(band) is tuple for band in found))
            sure, hoped = self.asked(sure_gains, game), self.asked(hoped_gains, game)
            self.assertEqual(found, list(zip(sure, values(game), hoped)))
            for low, middle, high in found:
                self.assertLessEqual(self.exact(low), self.exact(middle))
                self.assertLessEqual(self.exact(middle), self.exact(high))
            firm = [x for x, (low, _, high) in enumerate(found) if low == high]
            self.assertEqual(self.asked(firm_places, game), firm)
            parted += 0 < len(firm) < len(game)
        self.assertGreater(parted, 10)

    def test_the_values_of_the_turned_games(self):
        for game in ALL:
            for function, side in ((sure_gains, "theirs"), (hoped_gains, "ours")):
                turned = [(gain, side if kind == "draw" else kind, lassos.targets((gain, kind, branches)))
                          for gain, kind, branches in game]
                answer = answer_of(turned)
                self.assertEqual(judging.answer_faults(turned, answer), [])
                self.assertEqual(function(game), answer[0])

    def test_all_three_are_the_same_without_draws(self):
        for game in NO_DRAWS:
            self.assertEqual(self.asked(bands, game), [(value,) * 3 for value in values(game)])
            self.assertEqual(self.asked(firm_places, game), list(range(len(game))))

    def extreme_plays(self, game, best):
        """The best gain per step of all plays, from each place."""
        found = [[lassos.mean(*lassos.lasso(game, choices, x)) for x in range(len(game))]
                 for choices in lassos.all_choices(game, lassos.KINDS)]
        return [best(column) for column in zip(*found)]

    def test_where_one_side_has_no_places(self):
        looked = {"ours": 0, "theirs": 0}
        for game in [game for game in FEW_PLAYS + ONE_SIDED + SINGLES if lassos.plays(game) < 3000]:
            kinds = {place[1] for place in game}
            if "theirs" not in kinds:
                self.assertEqual(self.all_exact(hoped_gains(game)), self.extreme_plays(game, max))
                looked["theirs"] += 1
            if "ours" not in kinds:
                self.assertEqual(self.all_exact(sure_gains(game)), self.extreme_plays(game, min))
                looked["ours"] += 1
        self.assertGreater(min(looked.values()), 10)


class SureStrategies(Case):
    def test_told_strategies(self):
        self.assertEqual(self.asked(sure_gains_of, OF_BANDS, [0, None, None]), [(1, 2)] * 3)
        for told, gains in [(0, [(9, 1)] * 2), (1, [(-7, 1)] * 2)]:
            found = self.asked(sure_gains_of, MIXED, [None, None, 0, None, None, told])
            self.assertEqual([found[3], found[5]], [(9, 1), gains[0]])
            self.assertEqual(found[:3] + [found[4]], [(-7, 1), (3, 1), (-7, 1), (-7, 1)])
        game = [ours(4, 0, 1, 0), draw(-2, ("1/2", 0), ("1/2", 1))]
        for told, gains in [(0, [(4, 1), (-2, 1)]), (1, [(-2, 1), (-2, 1)]), (2, [(4, 1), (-2, 1)])]:
            self.assertEqual(self.asked(sure_gains_of, game, [told, None]), gains)

    def test_sure_gains_by_all_choices_of_the_others_and_of_chance(self):
        for game in FEW_PLAYS:
            for told in judging.strategies(game, "ours")[:12]:
                least = lassos.against_all(game, told, lassos.mean, min)
                self.assertEqual(self.all_exact(self.asked(sure_gains_of, game, told)), least)

    def test_no_strategy_is_surer(self):
        for seed, game in enumerate(ALL):
            best = self.all_exact(sure_gains(game))
            for k in range(3):
                told = made_strategy(seed + 100 * k, game, "ours")
                found = self.all_exact(self.asked(sure_gains_of, game, told))
                self.assertTrue(all(a <= b for a, b in zip(found, best)))

    def test_the_sure_strategy_has_the_sure_gains_of_all_places(self):
        for game in ALL:
            told = self.asked(sure_strategy, game)
            self.assertTrue(judging.is_strategy(game, "ours", told))
            self.assertEqual(self.asked(sure_gains_of, game, told), sure_gains(game))

    def test_the_sure_strategy_in_plays(self):
        for game in FEW_PLAYS:
            told = sure_strategy(game)
            self.assertEqual(lassos.against_all(game, told, lassos.mean, min), lassos.sure_gains(game))

    def test_plays_that_follow_it_have_at_least_the_sure_gain(self):
        for seed, game in enumerate(FULL + MADE):
            told = sure_strategy(game)
            dice = Dice(seed)
            for _ in range(5):
                others = [dice.below(len(place[2])) for place in game]
                choices = [a if b is None else b for a, b in zip(others, told)]
                for x, (n, d) in enumerate(sure_gains(game)):
                    self.assertLessEqual(Fraction(n, d), lassos.mean(*lassos.lasso(game, choices, x)))
