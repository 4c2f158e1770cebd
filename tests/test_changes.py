"""What a gain is worth: points 49 to 53."""

from fractions import Fraction

from tests import judging, lassos
from tests.support import Case, Dice, draw, number, way_on
from tests.test_rings import reached
from tests.worlds import (BEYOND, FULL, GAMES, KNOWN, MADE, ONE_SIDED, SINGLES, SMALL, SOME_CHAINS, OF_VALUES, ours,
                          theirs, wide_gain)

from meanhold.changes import bend, mean_rise, price, values_for, with_gain, with_gains_added
from meanhold.errors import BadNumber
from meanhold.means import values

OF_CHANGES = [ours(0, 0, 1), draw(2, ("1/2", 0), ("1/2", 1))]
# The value of the place 0 bends upwards where the gain of the place 1 passes 3, that of the place 3 downwards.
BOTH_BENDS = [ours(3, 0, 1), way_on(0, 1), theirs(3, 0, 1), theirs(3, 3, 1)]
TINY = Fraction(1, 10 ** 50)
LONG = Fraction(10 ** 60 + 1, 7 ** 40)
FEW_PAIRS = [game for game in SMALL[::2] + KNOWN if lassos.plays(game) < 100]
SOME = KNOWN + SINGLES + SOME_CHAINS + MADE[:10] + FULL[:4]


def with_new(game, gains):
    return [(number(gain), kind, branches) for gain, (_, kind, branches) in zip(gains, game)]


def gains_in(game):
    return [Fraction(*place[0]) for place in game]


def is_short(gain):
    return abs(gain.numerator) < 1000 and gain.denominator < 1000


class OtherGains(Case):
    def test_one_gain(self):
        self.assertEqual(self.asked(with_gain, OF_CHANGES, 1, (-7, 3)),
                         [((0, 1), "ours", [0, 1]), ((-7, 3), "draw", [((1, 2), 0), ((1, 2), 1)])])
        for game in GAMES + [BEYOND]:
            for x in range(len(game)):
                for gain in [(999, 1), (-999, 1), (0, 1), (5, 999)]:
                    told = [(gain if y == x else place[0], place[1], place[2]) for y, place in enumerate(game)]
                    self.assertEqual(self.asked(with_gain, game, x, gain), told)

    def test_numbers_added(self):
        self.assertEqual(self.asked(with_gains_added, OF_CHANGES, [(1, 3), (-5, 2)]),
                         [((1, 3), "ours", [0, 1]), ((-1, 2), "draw", [((1, 2), 0), ((1, 2), 1)])])
        for seed, game in enumerate(GAMES):
            dice = Dice(seed)
            added = [Fraction(*wide_gain(dice)) if dice.below(2) else Fraction(dice.below(7) - 3) for _ in game]
            told = [gain + more for gain, more in zip(gains_in(game), added)]
            additions = [number(more) for more in added]
            if all(is_short(gain) for gain in told):
                self.assertEqual(self.asked(with_gains_added, game, additions), with_new(game, told))
            else:
                self.refused(BadNumber, with_gains_added, game, additions)

    def test_gains_that_are_not_short(self):
        for gain, more, short in [((998, 1), (1, 1), True), ((998, 1), (2, 1), False), ((-998, 1), (-1, 1), True),
                                  ((-998, 1), (-2, 1), False), ((1, 999), (0, 1), True), ((1, 31), (1, 33), False),
                                  ((0, 1), (1, 1000), False), ((0, 1), (-1, 999), True), ((1, 500), (1, 1000), False),
                                  ((1, 2), (1997, 2), True), ((1, 2), (1999, 2), False), ((999, 1), (-1998, 1), True),
                                  ((999, 1), (-1999, 1), False), ((999, 1), (1, 999), False),
                                  ((0, 1), (10 ** 60, 1), False), ((0, 1), (1, 10 ** 60), False),
                                  ((500, 1), (-10 ** 60, 10 ** 58 - 1), False), ((1, 997), (1, 991), False)]:
            for x in range(3):
                game = [theirs(1, 0, 2), ours("1/2", 1, 0), draw(-3, ("1/3", 1), ("2/3", 0))]
                game[x] = (gain, game[x][1], game[x][2])
                additions = [more if y == x else (1, 3) for y in range(3)]
                if short:
                    told = [gain + Fraction(*found) for gain, found in zip(gains_in(game), additions)]
                    self.assertEqual(self.asked(with_gains_added, game, additions), with_new(game, told))
                else:
                    self.refused(BadNumber, with_gains_added, game, additions)

    def test_values_rise_with_the_additions(self):
        changed = 0
        for seed, game in enumerate(GAMES):
            dice = Dice(seed + 5)
            # The denominators are those of the gains, so that all gains stay short.
            added = [Fraction(dice.below(19) - 9, place[0][1]) for place in game]
            if not all(is_short(gain + more) for gain, more in zip(gains_in(game), added)):
                continue
            changed += 1
            other = with_gains_added(game, [number(more) for more in added])
            for before, behind in zip(self.all_exact(values(game)), self.all_exact(values(other))):
                self.assertLessEqual(before + min(added), behind)
                self.assertLessEqual(behind, before + max(added))
        self.assertGreater(changed, 150)


class ValuesForGains(Case):
    def told(self, game, x, gain):
        """The values by all pairs of strategies, with this gain at the place x."""
        return judging.values([(number(gain) if y == x else place[0], place[1], place[2])
                               for y, place in enumerate(game)], "ours")

    def test_told_games(self):
        self.assertEqual(self.asked(values_for, OF_CHANGES, 0, [(0, 1), (2, 1), (4, 1)], at=1),
                         [(4, 3), (2, 1), (4, 1)])
        self.assertEqual(self.asked(values_for, OF_CHANGES, 0, [], at=1), [])
        self.assertEqual(self.asked(values_for, OF_CHANGES, 1, [(9, 1), (-999, 1), (9, 1)], at=0),
                         [(6, 1), (0, 1), (6, 1)])
        self.assertEqual(self.asked(values_for, [way_on(3, 0)], 0, [(-5, 7), (999, 1)], at=0), [(-5, 7), (999, 1)])

    def test_by_all_pairs_of_strategies(self):
        for game in FEW_PAIRS:
            for x in range(len(game)):
                gains = [Fraction(-3), Fraction(1, 2), Fraction(999)]
                told = [self.told(game, x, gain) for gain in gains]
                for at in range(x % 2, len(game), 2):
                    found = self.asked(values_for, game, x, [number(gain) for gain in gains], at=at)
                    self.assertEqual(self.all_exact(found), [row[at] for row in told])
                    first = self.exact(mean_rise(game, x, (-3, 1), (1, 2), at=at))
                    self.assertEqual(first, (told[1][at] - told[0][at]) / Fraction(7, 2))
                    second = (told[2][at] - told[1][at]) / (999 - Fraction(1, 2))
                    turn = bend(game, x, [(-3, 1), (1, 2), (999, 1)], at=at)
                    self.assertIs(type(turn), int)
                    self.assertEqual(turn, (second > first) - (second < first))

    def test_they_rise_and_never_faster_than_the_gain(self):
        for seed, game in enumerate(SOME):
            dice = Dice(seed)
            gains = sorted({Fraction(*wide_gain(dice)) for _ in range(6)} | {Fraction(-999), Fraction(999)})
            for x in range(0, len(game), 3):
                at = dice.below(len(game))
                found = self.all_exact(values_for(game, x, [number(gain) for gain in gains], at=at))
                for (c, low), (d, high) in zip(zip(gains, found), list(zip(gains, found))[1:]):
                    self.assertLessEqual(0, high - low)
                    self.assertLessEqual(high - low, d - c)

    def test_beyond_the_limits(self):
        told = self.asked(with_gain, BEYOND, 3, (10 ** 9 + 7, 1009))
        self.assertEqual(self.asked(values_for, BEYOND, 3, [(10 ** 9 + 7, 1009)], at=5), [values(told)[5]])


class RisesAndBends(Case):
    def test_told_rises(self):
        for first, second in [((0, 1), (2, 1)), ((2, 1), (0, 1))]:
            self.assertEqual(self.asked(mean_rise, OF_CHANGES, 0, first, second, at=1), (1, 3))
        for first, second in [((4, 1), (2, 1)), ((9, 2), (997, 3))]:
            self.assertEqual(self.asked(mean_rise, OF_CHANGES, 0, first, second, at=1), (1, 1))
        self.assertEqual(self.asked(mean_rise, OF_CHANGES, 0, (0, 1), (4, 1), at=1), (2, 3))
        self.assertEqual(self.asked(mean_rise, OF_CHANGES, 0, (-1, 1), (-999, 1), at=0), (1, 3))

    def test_rises_in_either_order(self):
        for seed, game in enumerate(SOME):
            dice = Dice(seed + 3)
            for x in range(0, len(game), 4):
                first, second = wide_gain(dice), wide_gain(dice)
                at = dice.below(len(game))
                found = self.asked(mean_rise, game, x, first, second, at=at)
                self.assertEqual(found, self.asked(mean_rise, game, x, second, first, at=at))
                before, behind = self.all_exact(values_for(game, x, [first, second], at=at))
                self.assertEqual(self.exact(found), (behind - before) / (Fraction(*second) - Fraction(*first)))

    def test_told_bends(self):
        for gains, at, turn in [([(0, 1), (3, 1), (6, 1)], 0, 1), ([(0, 1), (3, 1), (6, 1)], 3, -1),
                                ([(0, 1), (3, 1), (6, 1)], 1, 0), ([(0, 1), (1, 1), (3, 1)], 0, 0),
                                ([(3, 1), (4, 1), (999, 1)], 0, 0), ([(29, 10), (3, 1), (31, 10)], 0, 1),
                                ([(-999, 1), (998, 1), (999, 1)], 3, -1), ([(-5, 1), (0, 1), (31, 10)], 3, -1),
                                ([(-5, 1), (0, 1), (3, 1)], 3, 0)]:
            self.assertEqual(self.asked(bend, BOTH_BENDS, 1, gains, at=at), turn)

    def test_bends_of_one_sided_games(self):
        found = {"ours": {}, "theirs": {}, "none": {}}
        for seed, game in enumerate(ONE_SIDED + KNOWN + SOME_CHAINS + SINGLES):
            kinds = {place[1] for place in game}
            sides = kinds & {"ours", "theirs"}
            if len(sides) == 2:
                continue
            side = "".join(sides) or "none"
            dice = Dice(seed + 9)
            for _ in range(3):
                gains = [number(gain) for gain in sorted({Fraction(dice.below(81) - 40, 3) for _ in range(8)})]
                for x, at in [(dice.below(len(game)), dice.below(len(game))) for _ in range(2)]:
                    turn = bend(game, x, gains[:2] + gains[-1:], at=at)
                    found[side][turn] = found[side].get(turn, 0) + 1
        self.assertEqual(sorted(found["ours"]), [0, 1])
        self.assertEqual(sorted(found["theirs"]), [-1, 0])
        self.assertEqual(list(found["none"]), [0])
        self.assertGreater(min(found["ours"][1], found["theirs"][-1]), 5)

    def test_places_that_are_not_reached_do_not_count(self):
        looked = 0
        for game in SMALL + MADE + KNOWN:
            told = values(game)
            for at in range(len(game)):
                for x in sorted(set(range(len(game))) - reached(game, at))[:2]:
                    gains = [(-999, 1), (1, 3), (999, 1)]
                    self.assertEqual(values_for(game, x, gains, at=at), [told[at]] * 3)
                    self.assertEqual(mean_rise(game, x, gains[2], gains[0], at=at), (0, 1))
                    self.assertEqual(bend(game, x, gains, at=at), 0)
                    looked += 1
        self.assertGreater(looked, 50)


class Prices(Case):
    def look_at(self, game, x, goal, at):
        """The price, after a look at the values with it and with one less."""
        found = price(game, x, number(goal), at=at)
        reaches = [Fraction(*told) >= goal for told in
                   values_for(game, x, [(999, 1)] if found is None else [(found, 1), (found - 1, 1)], at=at)]
        if found is None:
            self.assertEqual(reaches, [False])
        else:
            self.assertIs(type(found), int)
            self.assertLessEqual(-999, found)
            self.assertEqual(reaches, [True, False] if found > -999 else [True, reaches[1]])
        return found

    def test_told_games(self):
        self.assertEqual(self.asked(price, OF_CHANGES, 0, (5, 2), at=1), 3)
        for goal, cost in [(4, 4), ("401/100", 5), ("4/3", 0), ("401/300", 1), (999, 999), ("9991/10", None),
                           (1000, None), (-331, -997), (-332, -999), ("-995/3", -999), (-10 ** 40, -999),
                           (10 ** 40, None)]:
            self.assertEqual(self.look_at(OF_CHANGES, 0, Fraction(goal), 1), cost)
        for goal, cost in [(TINY, 1), (-TINY, 0), (LONG, None), (998 + TINY, 999), (-998 + TINY, -997),
                           (-999 + TINY, -998), (-999, -999), (999 + TINY, None), (0, 0)]:
            self.assertEqual(self.look_at([ours(7, 0, 0)], 0, Fraction(goal), 0), cost)

    def test_a_place_that_does_not_count(self):
        self.assertEqual(self.look_at(BOTH_BENDS, 0, Fraction(0), 1), -999)
        self.assertEqual(self.look_at(BOTH_BENDS, 0, TINY, 1), None)

    def test_goals_that_are_just_met_and_a_little_off(self):
        prices = set()
        for seed, game in enumerate(SOME + [OF_VALUES]):
            dice = Dice(seed + 70)
            for _ in range(2):
                x, at = dice.below(len(game)), dice.below(len(game))
                gain = dice.below(1999) - 999
                just = Fraction(*values_for(game, x, [(gain, 1)], at=at)[0])
                for goal in (just, just + TINY, just - TINY):
                    found = self.look_at(game, x, goal, at)
                    prices.add(found)
                    if goal <= just:
                        self.assertLessEqual(found, gain)
                    elif found is not None:
                        self.assertGreater(found, gain)
        self.assertIn(None, prices)
        self.assertIn(-999, prices)
        self.assertGreater(len(prices), 20)
