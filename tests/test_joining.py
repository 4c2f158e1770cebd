"""Games slowed, in turns, shifted, scaled, turned round and rolled: points 63 to 66, and 16."""

from fractions import Fraction

from tests import judging, lassos, reckoning
from tests.support import CHAINS, Case, Dice, draw, made_chain, number, way_on
from tests.worlds import (BEYOND, FULL, GAMES, KNOWN, MADE, NO_DRAWS, OF_VALUES, SINGLES, SMALL, SOME_CHAINS, ours,
                          theirs, wide_gain)

from meanhold.errors import BadNumber, BadSize
from meanhold.games import check_game
from meanhold.joining import in_turns, rolled, scaled, shifted, slowed, turned_round
from meanhold.leads import leads, long_gains
from meanhold.means import values

LONG = Fraction(10 ** 60 + 1, 7 ** 40)
FEW_PLACES = [game for game in SINGLES + KNOWN + SMALL + SOME_CHAINS + MADE + NO_DRAWS if len(game) <= 6]
OTHER = {"ours": "theirs", "theirs": "ours", "draw": "draw"}


def gains_in(game):
    return [Fraction(*place[0]) for place in game]


def with_new(game, gains):
    return [(number(gain), kind, branches) for gain, (_, kind, branches) in zip(gains, game)]


def are_short(gains):
    return all(abs(gain.numerator) < 1000 and gain.denominator < 1000 for gain in gains)


def led_on(place, name):
    """The place with another name for each of its targets."""
    gain, kind, branches = place
    if kind == "draw":
        return (gain, kind, [(chance, name(y)) for chance, y in branches])
    return (gain, kind, [name(y) for y in branches])


class Slowed(Case):
    def told(self, game, k):
        if k == 0:
            return game
        n = len(game)
        places = [led_on(place, lambda y: n + y * k) for place in game]
        for x in range(n):
            places += [way_on(0, n + x * k + j + 1) for j in range(k - 1)] + [way_on(0, x)]
        return places

    def test_a_told_game(self):
        self.assertEqual(self.asked(slowed, OF_VALUES, 2),
                         [((0, 1), "ours", [5, 7]), ((6, 1), "theirs", [3, 5]),
                          ((5, 2), "draw", [((1, 2), 7), ((1, 2), 3)]), way_on(0, 4), way_on(0, 0), way_on(0, 6),
                          way_on(0, 1), way_on(0, 8), way_on(0, 2)])
        self.assertEqual(self.asked(slowed, OF_VALUES, 0), OF_VALUES)
        self.assertEqual(self.asked(slowed, [theirs(7, 0, 0)], 1), [theirs(7, 1, 1), way_on(0, 0)])

    def test_all_sizes(self):
        for game in GAMES + [BEYOND]:
            for k in range(6):
                if len(game) * (k + 1) > 12:
                    self.refused(BadSize, slowed, game, k)
                else:
                    found = self.asked(slowed, game, k)
                    self.assertEqual(found, self.told(game, k))
                    self.assertIsNone(check_game(found))

    def test_just_twelve_places(self):
        for many, k in [(12, 0), (6, 1), (4, 2), (3, 3), (2, 5), (2, 4), (1, 5)]:
            game = [ours(x, (x + 1) % many) for x in range(many)]
            self.assertEqual(len(self.asked(slowed, game, k)), many * (k + 1))
        for many, k in [(13, 0), (7, 1), (5, 2), (4, 3), (3, 4), (3, 5), (12, 1), (12, 5)]:
            self.refused(BadSize, slowed, [ours(x, (x + 1) % many) for x in range(many)], k)

    def test_values_are_divided(self):
        for game in FEW_PLACES:
            told = self.all_exact(values(game))
            for k in [k for k in range(6) if len(game) * (k + 1) <= 12]:
                found = self.all_exact(values(slowed(game, k)))
                self.assertEqual(found[:len(game)], [value / (k + 1) for value in told])
                rests = [found[len(game) + x * k:len(game) + (x + 1) * k] for x in range(len(game))]
                self.assertEqual(rests, [[value / (k + 1)] * k for value in told])


class InTurns(Case):
    def told(self, first, second):
        n = len(second)
        places = {}
        for x, place in enumerate(first):
            for y, other in enumerate(second):
                places[2 * (n * x + y)] = led_on(place, lambda z: 2 * (n * z + y) + 1)
                places[2 * (n * x + y) + 1] = led_on(other, lambda z: 2 * (n * x + z))
        return [places[name] for name in range(len(places))]

    def test_a_told_game(self):
        first = [ours(1, 0, 1, 1), draw(2, ("1/3", 1), ("2/3", 0))]
        second = [theirs("-1/2", 1, 0), way_on(4, 2), draw(999, ("1/4", 0), ("3/4", 2))]
        self.assertEqual(self.asked(in_turns, first, second)[2:4] + in_turns(first, second)[10:],
                         [ours(1, 3, 9, 9), way_on(4, 4), draw(2, ("1/3", 11), ("2/3", 5)),
                          draw(999, ("1/4", 6), ("3/4", 10))])
        self.assertEqual(self.asked(in_turns, [ours(3, 0, 0)], [theirs(5, 0)]), [ours(3, 1, 1), theirs(5, 0)])

    def pairs(self):
        short = [game for game in FEW_PLACES if len(game) <= 3]
        return [(first, second) for k, first in enumerate(FEW_PLACES)
                for second in (short[(5 * k + 1) % len(short)], short[(3 * k) % len(short)])
                if len(first) * len(second) <= 6] + [(second, first) for first, second in zip(short, short[3:])
                                                     if len(first) * len(second) <= 6]

    def test_games_of_all_sizes(self):
        sizes = set()
        for first, second in self.pairs():
            found = self.asked(in_turns, first, second)
            self.assertEqual(found, self.told(first, second))
            self.assertIsNone(check_game(found))
            sizes.add((len(first), len(second)))
        self.assertTrue({(1, 1), (1, 2), (2, 1), (2, 2), (2, 3), (3, 2), (3, 1), (1, 3)} <= sizes)

    def test_too_many_places(self):
        for first in range(1, 9):
            for second in range(1, 9):
                games = [[ours(x, (x + 1) % many) for x in range(many)] for many in (first, second)]
                if first * second > 6:
                    self.refused(BadSize, in_turns, *games)
                else:
                    self.assertEqual(len(self.asked(in_turns, *games)), 2 * first * second)
        self.refused(BadSize, in_turns, FULL[0], [ours(1, 0)])
        self.refused(BadSize, in_turns, BEYOND, BEYOND)

    def test_values_are_half_the_sums(self):
        pairs = self.pairs()
        self.assertGreater(len(pairs), 50)
        for first, second in pairs:
            a, b = self.all_exact(values(first)), self.all_exact(values(second))
            self.assertEqual(self.all_exact(values(in_turns(first, second))),
                             [(x + y) / 2 for x in a for y in b for _ in range(2)])


class ShiftedAndScaled(Case):
    def look_at(self, function, game, by, gains):
        """The game with other gains, or BadNumber if one of them is not short."""
        if are_short(gains):
            self.assertEqual(self.asked(function, game, number(by)), with_new(game, gains))
            return True
        self.refused(BadNumber, function, game, number(by))
        return False

    def test_at_the_limits(self):
        game = [ours("1/2", 0, 1, 0), theirs(-999, 1, 0), draw("998/999", ("1/3", 0), ("2/3", 1))]
        for by, shorts in [(0, True), (-1, False), ("1/2", False), (1, False), (1998, False), ("1/999", False)]:
            self.assertIs(self.look_at(shifted, game, Fraction(by), [gain + Fraction(by) for gain in gains_in(game)]),
                          shorts)
        for game, by, shorts in [([ours(998, 0)], 1, True), ([ours(998, 0)], 2, False),
                                 ([ours(998, 0)], "1/999", False),
                                 ([way_on(-998, 0)], -1, True), ([way_on(-998, 0)], -2, False),
                                 ([way_on("1/2", 0)], "1/499", True), ([way_on("1/2", 0)], "1/501", False),
                                 ([way_on(999, 0)], -1998, True), ([way_on(999, 0)], -1999, False),
                                 ([theirs(0, 0)], Fraction(1, 10 ** 40), False), ([theirs(0, 0)], LONG, False)]:
            self.assertIs(self.look_at(shifted, game, Fraction(by), [gains_in(game)[0] + Fraction(by)]), shorts)
        for game, by, shorts in [([ours(333, 0)], 3, True), ([ours(333, 0)], "10/3", False), ([ours(0, 0)], LONG, True),
                                 ([ours(500, 0)], 2, False), ([ours(-500, 0)], 2, False), ([ours(999, 0)], 1, True),
                                 ([way_on("1/37", 0)], "1/27", True), ([way_on("1/40", 0)], "1/25", False),
                                 ([way_on("7/999", 0)], 999, True), ([way_on("7/999", 0)], Fraction(999, 7), True),
                                 ([theirs(1, 0)], Fraction(1, 10 ** 40), False)]:
            self.assertIs(self.look_at(scaled, game, Fraction(by), [gains_in(game)[0] * Fraction(by)]), shorts)

    def test_games_of_all_sorts_and_their_values(self):
        looked = {shifted: 0, scaled: 0}
        for seed, game in enumerate(GAMES):
            dice = Dice(seed)
            told = self.all_exact(values(game))
            for by in (Fraction(dice.below(15) - 7), Fraction(*wide_gain(dice)), LONG):
                if self.look_at(shifted, game, by, [gain + by for gain in gains_in(game)]):
                    found = self.all_exact(values(shifted(game, number(by))))
                    self.assertEqual(found, [value + by for value in told])
                    looked[shifted] += 1
            for by in (Fraction(1 + dice.below(7)), Fraction(1 + dice.below(9), 1 + dice.below(9)), LONG):
                if self.look_at(scaled, game, by, [gain * by for gain in gains_in(game)]):
                    found = self.all_exact(values(scaled(game, number(by))))
                    self.assertEqual(found, [value * by for value in told])
                    looked[scaled] += 1
        self.assertGreater(min(looked.values()), 100)

    def test_one_gain_that_is_not_short(self):
        for x in range(3):
            game = [ours(1, 0, 1), theirs(-2, 1, 0), draw(3, ("1/2", 0), ("1/2", 1))]
            game[x] = ((999, 1), game[x][1], game[x][2])
            self.refused(BadNumber, shifted, game, (1, 1))
            self.refused(BadNumber, scaled, game, (2, 1))
            self.refused(BadNumber, scaled, game, (1, 1000))


class TurnedRound(Case):
    def test_a_told_game(self):
        self.assertEqual(self.asked(turned_round, OF_VALUES),
                         [((0, 1), "theirs", [1, 2]), ((-6, 1), "ours", [0, 1]),
                          ((-5, 2), "draw", [((1, 2), 2), ((1, 2), 0)])])

    def test_games_of_all_sorts(self):
        for game in GAMES + [BEYOND]:
            found = self.asked(turned_round, game)
            self.assertEqual(found, [((-gain[0], gain[1]), OTHER[kind], branches) for gain, kind, branches in game])
            self.assertEqual(turned_round(found), game)
            self.assertEqual(self.all_exact(values(found)), [-value for value in self.all_exact(values(game))])

    def test_by_all_pairs_of_strategies(self):
        for game in [game for game in SMALL if lassos.plays(game) < 60]:
            self.assertEqual(judging.values(turned_round(game), "ours"),
                             [-value for value in judging.values(game, "theirs")])


class RolledChains(Case):
    def told(self, chain, numbers):
        return [Fraction(*place[0]) + p - judging.mean(place, numbers) for place, p in zip(chain, numbers)]

    def made_numbers(self, seed, chain):
        """Numbers that leave the gains of most chains short."""
        dice = Dice(seed + 90)
        return [Fraction(dice.below(15) - 7, (1, 1, 2)[dice.below(3)]) for _ in chain]

    def test_a_told_chain(self):
        chain = [way_on(4, 1), draw(0, ("1/2", 0), ("1/2", 1))]
        self.assertEqual(self.asked(rolled, chain, [(3, 1), (-1, 2)]),
                         [((15, 2), "draw", [((1, 1), 1)]), ((-7, 4), "draw", [((1, 2), 0), ((1, 2), 1)])])
        self.assertEqual(self.asked(rolled, [way_on("1/3", 0)], [(-999, 1)]), [way_on("1/3", 0)])

    def test_gains_that_are_not_short(self):
        chain = [way_on(4, 1), draw(0, ("1/2", 0), ("1/2", 1))]
        for numbers, shorts in [([(995, 1), (0, 1)], True), ([(996, 1), (0, 1)], False), ([(0, 1), (999, 1)], True),
                                ([(5, 1), (-990, 1)], True), ([(5, 1), (-991, 1)], False), ([(1, 998), (0, 1)], False),
                                ([(1, 249), (0, 1)], True), ([(1, 251), (0, 1)], False), ([(999, 1), (999, 1)], True)]:
            if shorts:
                told = self.told(chain, [Fraction(*p) for p in numbers])
                self.assertEqual(self.asked(rolled, chain, numbers), with_new(chain, told))
            else:
                self.refused(BadNumber, rolled, chain, numbers)

    def test_long_gains_stay_and_leads_roll(self):
        looked = refused = 0
        for seed, chain in enumerate(CHAINS + [made_chain(seed) for seed in range(100, 130)]):
            p = self.made_numbers(seed, chain)
            numbers = [number(found) for found in p]
            if not are_short(self.told(chain, p)):
                self.refused(BadNumber, rolled, chain, numbers)
                refused += 1
                continue
            looked += 1
            found = self.asked(rolled, chain, numbers)
            self.assertEqual(found, with_new(chain, self.told(chain, p)))
            self.assertEqual(long_gains(found), long_gains(chain))
            shares = reckoning.shares(chain)
            more = [mine - sum(share * other for share, other in zip(row, p)) for mine, row in zip(p, shares)]
            self.assertEqual(self.all_exact(leads(found)),
                             [lead + grown for lead, grown in zip(self.all_exact(leads(chain)), more)])
        self.assertGreater(looked, 80)
        self.assertGreater(refused, 0)

    def test_gains_added_to_and_multiplied_leave_and_multiply_the_leads(self):
        looked = 0
        for chain in CHAINS:
            told = self.all_exact(leads(chain))
            if are_short([gain + 5 for gain in gains_in(chain)]):
                self.assertEqual(leads(shifted(chain, (5, 1))), leads(chain))
                looked += 1
            for by in (Fraction(3), Fraction(2, 3)):
                if are_short([gain * by for gain in gains_in(chain)]):
                    found = scaled(chain, number(by))
                    self.assertEqual(self.all_exact(leads(found)), [by * lead for lead in told])
                    looked += 1
        self.assertGreater(looked, 150)
