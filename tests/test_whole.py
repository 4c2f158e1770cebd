"""Promises over the whole program: what different files tell of one game fits together."""

from fractions import Fraction
from math import lcm

from tests.booked import made_steps
from tests.support import Case, Dice, number
from tests.test_rings import LONE, LONE_FULL
from tests.test_stores import WHOLE_FULL, WHOLE_GAMES
from tests.worlds import FULL, GAMES, KNOWN, MADE, NO_DRAWS, SINGLES, SLOW, SMALL, SOME_CHAINS

from meanhold.against import greatest_against, least_against
from meanhold.changes import values_for, with_gain, with_gains_added
from meanhold.discounts import discounted_worths
from meanhold.games import check_game, with_strategy
from meanhold.joining import in_turns, shifted, slowed, turned_round
from meanhold.leads import first_gains, long_gains
from meanhold.ledger import Ledger, replay
from meanhold.means import answer_of, check_answer, is_best, lifted, values
from meanhold.plays import chance_of, places_on, sum_of, unrolled
from meanhold.rings import greatest_ring, is_ours_alone, is_ring, potentials_for, ring_mean, shows_no_greater
from meanhold.rounds import best_moves, bracket, worths, worths_from
from meanhold.slacks import sums_at_least, sums_at_most, tight_branches
from meanhold.stays import stays, visiting, weighed
from meanhold.stores import boxed_stores, is_enough, keeping, least_stores, stores_for
from meanhold.surely import against_us, bands, for_us, hoped_gains, sure_gains, sure_gains_of, sure_strategy

SOME = KNOWN + SINGLES + SOME_CHAINS + MADE[:15] + NO_DRAWS[:8] + FULL[:6] + SLOW[:5]


def made_whole(game):
    """The game with all gains multiplied by one number, so that they are whole."""
    by = lcm(*[place[0][1] for place in game])
    return [((n * (by // d), 1), kind, branches) for (n, d), kind, branches in game]


def opposites(numbers):
    return [(-n, d) for n, d in numbers]


def told_steps(seed, game, answer, start, many):
    """A play that follows the strategies of the answer, whatever chance does."""
    dice = Dice(seed + 123)
    _, _, ours, theirs = answer
    branches, places = [], [start]
    for _ in range(many):
        x = places[-1]
        told = {"ours": ours[x], "theirs": theirs[x], "draw": dice.below(len(game[x][2]))}[game[x][1]]
        branches.append(told)
        places = places_on(game, start, branches)
    return branches


class Answers(Case):
    def test_each_game_and_its_answer_are_taken(self):
        for game in GAMES + SLOW:
            self.assertIsNone(check_game(game))
            answer = answer_of(game)
            self.assertTrue(check_answer(game, answer))
            self.assertEqual(answer[0], values(game))

    def test_strategies_of_an_answer(self):
        for game in SOME:
            gains, leads, ours, theirs = answer_of(game)
            self.assertTrue(is_best(game, ours, side="ours") and is_best(game, theirs, side="theirs"))
            self.assertEqual(least_against(game, ours)[0][0], gains)
            self.assertEqual(greatest_against(game, theirs)[0][0], gains)
            chain = with_strategy(with_strategy(game, "ours", ours), "theirs", theirs)
            self.assertEqual(long_gains(chain), gains)
            for steps in (1, 7, 60):
                for x, booked in enumerate(self.all_exact(first_gains(chain, steps=steps))):
                    self.assertLessEqual(self.exact(sums_at_least((gains, leads), x, steps)), booked)
                    self.assertLessEqual(booked, self.exact(sums_at_most((gains, leads), x, steps)))


class WorthsAndValues(Case):
    def test_brackets_and_worths_lead_to_the_values(self):
        for game in SOME:
            gains, leads, _, _ = answer_of(game)
            low, high = [self.exact(end) for end in bracket(game, 30)]
            for x, worth in enumerate(self.all_exact(worths(game, 30))):
                self.assertTrue(low <= self.exact(gains[x]) <= high)
                self.assertLessEqual(self.exact(sums_at_least((gains, leads), x, 30)), worth)
                self.assertLessEqual(worth, self.exact(sums_at_most((gains, leads), x, 30)))

    def test_leads_as_starting_worths_of_games_with_one_value(self):
        looked = 0
        for game in GAMES:
            gains, leads, _, _ = answer_of(game)
            if gains != [gains[0]] * len(game):
                continue
            looked += 1
            behind = self.all_exact(worths_from(game, leads, 9))
            self.assertEqual(behind, [9 * self.exact(gains[0]) + lead for lead in self.all_exact(leads)])
        self.assertGreater(looked, 20)

    def test_a_best_move_far_from_the_end_is_a_tight_branch(self):
        game = [((0, 1), "ours", [1, 2]), ((5, 1), "theirs", [0]), ((1, 1), "draw", [((1, 1), 0)])]
        self.assertEqual(best_moves(game, 0, 30), tight_branches(game, answer_of(game)[:2])[0])

    def test_a_chain_has_its_first_gains_as_worths(self):
        for game in SOME:
            _, _, ours, theirs = answer_of(game)
            chain = with_strategy(with_strategy(game, "theirs", theirs), "ours", ours)
            self.assertEqual(worths(chain, 21), first_gains(chain, steps=21))

    def test_discounts_near_1_come_near_the_values(self):
        for game in SOME:
            told = self.all_exact(values(game))
            found = self.all_exact(discounted_worths(game, discount=(10 ** 12 - 1, 10 ** 12)))
            for value, worth in zip(told, found):
                self.assertLess(abs(worth / 10 ** 12 - value), Fraction(1, 100))


class ChanceAndSides(Case):
    def test_bands_of_a_game_turned_round(self):
        for game in SOME:
            other = turned_round(game)
            self.assertEqual(sure_gains(other), opposites(hoped_gains(game)))
            self.assertEqual(hoped_gains(other), opposites(sure_gains(game)))
            self.assertEqual([band[1] for band in bands(other)], opposites(values(game)))

    def test_sure_gains_are_values_against_us(self):
        for game in SOME:
            self.assertEqual(sure_gains(game), values(against_us(game)))
            self.assertEqual(hoped_gains(game), values(for_us(game)))
            told = sure_strategy(game)
            self.assertTrue(is_best(against_us(game), told, side="ours"))
            least = self.all_exact(least_against(game, told)[0][0])
            self.assertTrue(all(a <= b for a, b in zip(self.all_exact(sure_gains_of(game, told)), least)))

    def test_stays_and_weighed_values(self):
        for seed, game in enumerate(SOME):
            dice = Dice(seed)
            places = [x for x in range(len(game)) if dice.below(2)]
            self.assertEqual(stays(game, places, side="ours"), values(visiting(game, places)))
            self.assertEqual(stays(turned_round(game), places, side="ours"), stays(game, places, side="theirs"))
            light = [(n // d % 3, 1) for (n, d), _, _ in game]
            told = [(gain, kind, branches) for gain, (_, kind, branches) in zip(light, game)]
            heavy = with_gains_added(told, [(2, 1) if x in places else (0, 1) for x in range(len(game))])
            self.assertEqual(weighed(told, places, weight=(2, 1)), values(heavy))

    def test_values_for_the_own_gain(self):
        for game in SOME:
            for x in range(0, len(game), 5):
                self.assertEqual(with_gain(game, x, game[x][0]), game)
                self.assertEqual(values_for(game, x, [game[x][0]], at=0), values(game)[:1])


class StoresAndGains(Case):
    def test_stores_are_endless_just_where_the_sure_gain_is_below_0(self):
        for game in WHOLE_GAMES + [made_whole(game) for game in SOME]:
            stores = least_stores(game)
            self.assertEqual([store is None for store in stores], [n < 0 for n, _ in sure_gains(game)])
            self.assertTrue(is_enough(game, stores))
            kept = sure_gains_of(game, keeping(game))
            self.assertTrue(all(store is None or n >= 0 for store, (n, _) in zip(stores, kept)))
            most = max([store for store in stores if store is not None], default=0)
            self.assertEqual(boxed_stores(game, max(most, 12 * 999)), stores)
            for store, later in zip(stores, stores_for(game, 60)):
                self.assertTrue(store is None or later <= store)

    def test_rests_need_no_store(self):
        looked = 0
        for game in WHOLE_GAMES:
            for k in [k for k in range(6) if len(game) * (k + 1) <= 12]:
                self.assertEqual(least_stores(slowed(game, k))[:len(game)], least_stores(game))
                looked += k > 0
        self.assertGreater(looked, 100)

    def test_a_game_shifted_by_its_least_sure_gain_needs_no_endless_store(self):
        for game in WHOLE_FULL + [made_whole(game) for game in SMALL]:
            least = min(n // d for n, d in sure_gains(game))
            if all(abs(place[0][0] - least) < 1000 for place in game):
                self.assertNotIn(None, least_stores(shifted(game, (-least, 1))))


class RingsAndValues(Case):
    def test_greatest_rings_of_games_that_are_ours_alone(self):
        for game in LONE + LONE_FULL:
            self.assertTrue(is_ours_alone(game))
            told = values(game)
            self.assertEqual(bands(game), [(value,) * 3 for value in told])
            for x, value in enumerate(told):
                ring = greatest_ring(game, x)
                self.assertTrue(is_ring(game, ring))
                self.assertEqual(ring_mean(game, ring), value)
                self.assertTrue(shows_no_greater(game, x, value, potentials_for(game, x)))


class Joined(Case):
    def test_games_slowed_and_in_turns(self):
        for first, second in zip(SMALL, SMALL[1:] + SMALL[:1]):
            if len(first) * len(second) > 6:
                continue
            a, b = [self.all_exact(sure_gains(game)) for game in (first, second)]
            joined = in_turns(first, second)
            self.assertEqual(self.all_exact(sure_gains(joined)), [(x + y) / 2 for x in a for y in b for _ in range(2)])
        for game in [game for game in SMALL if len(game) <= 6]:
            for found, value in zip(bands(slowed(game, 1)), bands(game)):
                self.assertEqual([2 * self.exact(told) for told in found], [self.exact(told) for told in value])

    def test_brackets_of_shifted_games(self):
        for game in KNOWN + MADE + SMALL[13:]:
            ends = [number(self.exact(end) + 7) for end in bracket(game, 11)]
            self.assertEqual(bracket(shifted(game, (7, 1)), 11), tuple(ends))


class LedgersAndPlays(Case):
    def test_told_branches_book_nothing_at_places_of_the_sides(self):
        for seed, game in enumerate(SOME):
            answer = answer_of(game)
            start = seed % len(game)
            ledger = Ledger(game, answer, start=start)
            for branch in told_steps(seed, game, answer, start, 25):
                self.assertTrue(game[ledger.here()][1] == "draw" or branch in ledger.free_branches())
                ledger.step(branch)
            for told in (ledger.bookings, ledger.shifts):
                self.assertEqual((told("gift"), told("slip")), ((0, 1), (0, 1)))
            self.assertEqual(self.exact(ledger.gains()), self.exact(ledger.due()) + self.exact(ledger.lead()) +
                             self.exact(ledger.bookings("luck")))

    def test_free_branches_are_tight_ones(self):
        for game in SOME:
            answer = answer_of(game)
            for x, tight in enumerate(tight_branches(game, answer[:2])):
                if tight is not None:
                    self.assertEqual(Ledger(game, answer, start=x).free_branches(), tight)

    def test_ledgers_book_what_plays_tell(self):
        for seed, game in enumerate(SOME):
            start = seed % len(game)
            branches, places = made_steps(seed + 8, game, start, 30)
            answer = lifted(answer_of(game), by=(3, 7), plus=(-1, 2))
            ledger = replay(game, answer, [("step", branch) for branch in branches], start=start)
            self.assertEqual(places_on(game, start, ledger.way()), places)
            self.assertEqual(ledger.here(), places[-1])
            self.assertEqual(ledger.gains(), sum_of(game, start, branches))
            path, circles = unrolled(game, start, branches)
            sums = [sum_of(game, start, path)] + [sum_of(game, x, circle) for x, circle in circles]
            self.assertEqual(self.exact(ledger.gains()), sum(self.exact(found) for found in sums))
            self.assertGreater(self.exact(chance_of(game, start, branches)), 0)

    def test_without_draws_there_is_no_luck(self):
        for seed, game in enumerate(NO_DRAWS):
            answer = answer_of(game)
            branches, _ = made_steps(seed + 9, game, 0, 30)
            ledger = Ledger(game, answer, start=0)
            ledger.do_all([("step", branch) for branch in branches])
            self.assertEqual((ledger.bookings("luck"), ledger.shifts("luck")), ((0, 1), (0, 1)))
            self.assertGreaterEqual(self.exact(ledger.bookings("gift")), 0)
            self.assertLessEqual(self.exact(ledger.bookings("slip")), 0)
