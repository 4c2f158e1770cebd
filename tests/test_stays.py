"""Stays and weighed values: points 54 to 57."""

from fractions import Fraction

from tests import judging, lassos, reckoning
from tests.support import CHAINS, Case, Dice, draw, number, way_on
from tests.worlds import (BEYOND, FULL, GAMES, KNOWN, MADE, NO_DRAWS, ONE_SIDED, SINGLES, SLOW, SMALL, SOME_CHAINS,
                          ours, theirs)

from meanhold.leads import long_gains
from meanhold.means import values
from meanhold.stays import stays, visiting, weighed

OF_STAYS = [ours(9, 0, 1), theirs(0, 0, 1)]
# Both sides choose between a place on the list and a draw that leads back to it with the chance 1/3.
PULLED = [ours("1/2", 1, 2), theirs(999, 0, 2, 0), draw(-3, ("1/3", 0), ("2/3", 2)), ours(0, 3, 1)]
SOME = KNOWN + SINGLES + SOME_CHAINS + MADE[:12] + NO_DRAWS[:6] + FULL[:5] + SLOW[:4] + [PULLED]
FEW_PAIRS = [game for game in SMALL[::2] + KNOWN + [PULLED] if lassos.plays(game) < 120]
TINY = Fraction(1, 10 ** 40)
LONG = Fraction(10 ** 60 + 1, 7 ** 40)


def exchanged(game):
    return [(gain, judging.OTHER.get(kind, kind), branches) for gain, kind, branches in game]


def visited(game, places):
    return [((int(x in places), 1), kind, branches) for x, (_, kind, branches) in enumerate(game)]


def heavier(game, places, weight):
    return [(number(Fraction(*gain) + (weight if x in places else 0)), kind, branches)
            for x, (gain, kind, branches) in enumerate(game)]


def lists_of(game, seed=0):
    """The empty list, all places, and some lists between, each ascending."""
    dice = Dice(seed + 60)
    between = [[x for x in range(len(game)) if dice.below(2)] for _ in range(2)]
    return [[], list(range(len(game))), [0]] + between


class Visiting(Case):
    def test_told_games(self):
        self.assertEqual(self.asked(visiting, PULLED, [0, 2]),
                         [((1, 1), "ours", [1, 2]), ((0, 1), "theirs", [0, 2, 0]),
                          ((1, 1), "draw", [((1, 3), 0), ((2, 3), 2)]), ((0, 1), "ours", [3, 1])])

    def test_lists_of_all_sorts(self):
        for seed, game in enumerate(GAMES + [BEYOND]):
            for places in lists_of(game, seed):
                self.assertEqual(self.asked(visiting, game, places), visited(game, places))


class Stays(Case):
    def both(self, game, places):
        """The stays for the two sides, as lists of fractions."""
        return [self.all_exact(self.asked(stays, game, places, side=side)) for side in judging.SIDES]

    def test_told_games(self):
        self.assertEqual(self.asked(stays, OF_STAYS, [0], side="ours"), [(1, 1), (0, 1)])
        self.assertEqual(self.asked(stays, OF_STAYS, [0], side="theirs"), [(1, 2), (1, 2)])
        self.assertEqual(self.asked(stays, OF_STAYS, [1], side="theirs"), [(0, 1), (1, 1)])
        self.assertEqual(self.asked(stays, OF_STAYS, [1], side="ours"), [(1, 2), (1, 2)])
        self.assertEqual(self.asked(stays, PULLED, [2], side="ours"), [(3, 4)] * 4)
        self.assertEqual(self.asked(stays, PULLED, [2], side="theirs"), [(3, 5), (3, 5), (3, 5), (0, 1)])
        self.assertEqual(self.asked(stays, PULLED, [0], side="ours"), [(1, 4), (1, 4), (1, 4), (1, 4)])

    def test_no_places_and_all_places(self):
        for game in GAMES + SLOW + [BEYOND]:
            for side in judging.SIDES:
                self.assertEqual(self.asked(stays, game, [], side=side), [(0, 1)] * len(game))
                self.assertEqual(self.asked(stays, game, list(range(len(game))), side=side), [(1, 1)] * len(game))

    def test_by_all_pairs_of_strategies(self):
        for seed, game in enumerate(FEW_PAIRS):
            for places in lists_of(game, seed)[2:]:
                most, least = self.both(game, places)
                self.assertEqual(most, judging.values(visited(game, places), "ours"))
                self.assertEqual(least, judging.values(exchanged(visited(game, places)), "ours"))

    def test_chains_have_the_shares_of_the_places(self):
        for seed, chain in enumerate(CHAINS[:40]):
            shares = reckoning.shares(chain)
            for places in lists_of(chain, seed):
                told = [sum((row[y] for y in places), Fraction(0)) for row in shares]
                self.assertEqual(self.both(chain, places), [told, told])

    def test_all_other_places_for_the_other_side(self):
        for seed, game in enumerate(SOME):
            for places in lists_of(game, seed)[2:]:
                others = [x for x in range(len(game)) if x not in places]
                for a, b in zip(self.both(game, places), self.both(game, others)[::-1]):
                    self.assertEqual([x + y for x, y in zip(a, b)], [1] * len(game))

    def test_sides_exchanged(self):
        for seed, game in enumerate(SOME):
            for places in lists_of(game, seed)[2:]:
                self.assertEqual(self.both(exchanged(game), places), self.both(game, places)[::-1])

    def test_longer_lists_have_nowhere_less(self):
        grown = 0
        for seed, game in enumerate(SOME):
            dice = Dice(seed)
            places = []
            before = self.both(game, places)
            while len(places) < len(game):
                left = [x for x in range(len(game)) if x not in places]
                places = sorted(places + left[:1 + dice.below(3)])
                behind = self.both(game, places)
                for a, b in zip(before, behind):
                    self.assertTrue(all(0 <= x <= y <= 1 for x, y in zip(a, b)))
                    grown += a != b
                before = behind
        self.assertGreater(grown, 100)


class Weighed(Case):
    def told(self, game, places, weight):
        return self.all_exact(self.asked(weighed, game, places, weight=number(weight)))

    def test_told_games(self):
        for weight, found in [(0, [9, 0]), (-9, [0, 0]), (-10, ["-1/2", "-1/2"]), (-8, [1, 0]),
                              (Fraction(1, 3), ["28/3", 0]), (10 ** 30, [10 ** 30 + 9, 0]),
                              (9 - 10 ** 30, [9 - 5 * 10 ** 29] * 2)]:
            self.assertEqual(self.told(OF_STAYS, [0], Fraction(weight)), [Fraction(value) for value in found])
        self.assertEqual(self.told([way_on(999, 0)], [0], LONG), [999 + LONG])
        self.assertEqual(self.told([way_on(999, 0)], [], LONG), [999])

    def test_by_all_pairs_of_strategies(self):
        for seed, game in enumerate(FEW_PAIRS[::2] + [PULLED]):
            for places in lists_of(game, seed)[1:4]:
                for weight in (Fraction(3, 7), Fraction(-1200), LONG):
                    self.assertEqual(self.told(game, places, weight),
                                     judging.values(heavier(game, places, weight), "ours"))

    def test_no_places_and_no_weight(self):
        for seed, game in enumerate(SOME + [BEYOND]):
            own = self.all_exact(values(game))
            self.assertEqual(self.told(game, [], LONG), own)
            self.assertEqual(self.told(game, lists_of(game, seed)[3], Fraction(0)), own)
            self.assertEqual(self.told(game, list(range(len(game))), -LONG), [value - LONG for value in own])

    def test_they_grow_with_the_weight_and_by_no_more(self):
        grown = 0
        for seed, game in enumerate(SOME):
            weights = [-10 ** 20, -700, Fraction(-7, 3), 0, TINY, Fraction(1, 2), 40, LONG]
            for places in lists_of(game, seed)[2:4]:
                found = [self.all_exact(weighed(game, places, weight=number(weight))) for weight in weights]
                for low, high, a, b in zip(weights, weights[1:], found, found[1:]):
                    self.assertTrue(all(0 <= y - x <= high - low for x, y in zip(a, b)))
                    grown += a != b
        self.assertGreater(grown, 100)

    def test_the_middle_of_two_weights(self):
        bent = {"ours": 0, "theirs": 0}
        for seed, game in enumerate(ONE_SIDED + SOME_CHAINS):
            sides = {place[1] for place in game} & {"ours", "theirs"}
            for places in lists_of(game, seed)[2:]:
                for low, high in [(Fraction(-9), Fraction(5)), (Fraction(1, 3), Fraction(999)), (-LONG, LONG)]:
                    a, middle, b = [self.all_exact(weighed(game, places, weight=number(weight)))
                                    for weight in (low, (low + high) / 2, high)]
                    above = [2 * y - x - z for x, y, z in zip(a, middle, b)]
                    if "theirs" not in sides:
                        self.assertLessEqual(max(above), 0)
                        bent["ours"] += min(above) < 0
                    if "ours" not in sides:
                        self.assertGreaterEqual(min(above), 0)
                        bent["theirs"] += max(above) > 0
        self.assertGreater(min(bent.values()), 5)

    def test_chains_have_the_long_gain_and_the_weight_times_the_stay(self):
        for seed, chain in enumerate(CHAINS[:40]):
            own = self.all_exact(long_gains(chain))
            for places in lists_of(chain, seed):
                stay = self.all_exact(stays(chain, places, side="ours"))
                for weight in (Fraction(-5, 3), LONG):
                    self.assertEqual(self.told(chain, places, weight),
                                     [gain + weight * part for gain, part in zip(own, stay)])
