"""Long gains against a told strategy: points 22, 25 and 26."""

from fractions import Fraction

from tests import judging
from tests.support import Case, made_strategy, moved, number
from tests.worlds import (BEYOND, FULL, GAMES, GIFT_ON_THE_WAY, LOSS_ON_THE_WAY, LURE, OF_REPLIES, ONE_SIDED, SLOW,
                          SMALL, SOME_CHAINS, STEERED, STEERED_BY_US, TRAP)

from meanhold.against import greatest_against, least_against, shows_greatest, shows_least
from meanhold.leads import long_gains

TINY = Fraction(1, 10 ** 40)
SOLVED = {"ours": least_against, "theirs": greatest_against}
SHOWS = {"ours": shows_least, "theirs": shows_greatest}


def shown(game, rows, side, strategy, reply):
    """The answer of shows_least for a strategy of ours, of shows_greatest for one of theirs."""
    return SHOWS[side](game, rows, **{side: strategy, judging.OTHER[side]: reply})


def broken(game, rows, side, strategy, reply):
    return judging.showing_faults(game, rows, side, {side: strategy, judging.OTHER[side]: reply})


class LongGainsAgainst(Case):
    def look_at(self, game, side, strategy):
        """The gains, after it has been looked at that the rows and the reply show them."""
        found = self.asked(SOLVED[side], game, strategy)
        self.assertEqual((type(found), len(found), type(found[0]), len(found[0])), (tuple, 2, tuple, 2))
        rows, reply = found
        self.assertEqual((len(self.all_exact(rows[0])), len(self.all_exact(rows[1]))), (len(game), len(game)))
        self.assertTrue(judging.is_strategy(game, judging.OTHER[side], reply))
        self.assertEqual(broken(game, rows, side, strategy, reply), [])
        chain = judging.pair_put_in(game, {side: strategy, judging.OTHER[side]: reply})
        self.assertEqual(long_gains(chain), rows[0])
        return rows[0]

    def test_the_example(self):
        self.assertEqual(self.look_at(OF_REPLIES, "ours", [0, None]), [(4, 1), (-2, 1)])
        self.assertEqual(self.look_at(OF_REPLIES, "ours", [1, None]), [(-2, 1), (-2, 1)])
        self.assertEqual(self.look_at(OF_REPLIES, "theirs", [None, 0]), [(4, 1), (4, 1)])
        self.assertEqual(self.look_at(OF_REPLIES, "theirs", [None, 1]), [(4, 1), (-2, 1)])

    def test_told_games(self):
        self.assertEqual(self.look_at(LOSS_ON_THE_WAY, "ours", [1, None, None]), [(0, 1)] * 3)
        self.assertEqual(self.look_at(LURE, "ours", [0] + [None] * 3), [(1, 1), (1, 1), (0, 1), (0, 1)])
        self.assertEqual(self.look_at(LURE, "ours", [1] + [None] * 3), [(0, 1), (1, 1), (0, 1), (0, 1)])
        self.assertEqual(self.look_at(LURE, "theirs", [None] * 4), [(1, 1), (1, 1), (0, 1), (0, 1)])
        self.assertEqual(self.look_at(TRAP, "ours", [None] * 4), [(-1, 2), (-1, 2), (1, 3), (1, 3)])
        self.assertEqual(self.look_at(TRAP, "theirs", [1] + [None] * 3), [(1, 3), (-1, 2), (1, 3), (1, 3)])
        self.assertEqual(self.look_at(GIFT_ON_THE_WAY, "theirs", [1, None, None]), [(0, 1)] * 3)

    def test_a_reply_that_loses_on_the_way(self):
        # The reply goes through the place with the gain 999 to come to the one with -1.
        game = [((0, 1), "theirs", [1, 2]), ((999, 1), "draw", [((1, 1), 3)]), ((0, 1), "ours", [2, 0]),
                ((-1, 1), "theirs", [3, 1])]
        self.assertEqual(self.look_at(game, "ours", [None, None, 0, None]), [(-1, 1), (-1, 1), (0, 1), (-1, 1)])
        self.assertEqual(self.look_at(game, "ours", [None, None, 1, None]), [(-1, 1)] * 4)
        turned = [((0, 1), "ours", [1, 2]), ((-999, 1), "draw", [((1, 1), 3)]), ((0, 1), "theirs", [2, 0]),
                  ((1, 1), "ours", [3, 1])]
        self.assertEqual(self.look_at(turned, "theirs", [None, None, 0, None]), [(1, 1), (1, 1), (0, 1), (1, 1)])

    def test_several_groups_that_are_never_left(self):
        for game in (STEERED, STEERED_BY_US):
            for side in judging.SIDES:
                for strategy in judging.strategies(game, side):
                    self.look_at(game, side, strategy)

    def test_over_all_replies(self):
        seen = 0
        for game in SMALL:
            for side in judging.SIDES:
                for strategy, gains in judging.long_gains_against(game, side):
                    self.assertEqual(self.all_exact(self.look_at(game, side, strategy)), gains)
                    seen += len(set(gains)) > 1
        self.assertGreater(seen, 100)

    def test_games_of_all_sorts(self):
        for seed, game in enumerate(GAMES + SLOW + [BEYOND]):
            for side in judging.SIDES:
                self.look_at(game, side, made_strategy(seed, game, side))

    def test_where_the_others_have_no_places(self):
        for seed, game in enumerate(SOME_CHAINS + ONE_SIDED):
            for side in judging.SIDES:
                if all(place[1] != judging.OTHER[side] for place in game):
                    strategy = made_strategy(seed, game, side)
                    chain = judging.put_in(game, side, strategy)
                    self.assertEqual(self.look_at(game, side, strategy), long_gains(chain))


class Shows(Case):
    def test_what_is_returned(self):
        for seed, game in enumerate(GAMES + SLOW[:5] + [BEYOND]):
            for side in judging.SIDES:
                strategy = made_strategy(seed, game, side)
                rows, reply = SOLVED[side](game, strategy)
                named = {side: strategy, judging.OTHER[side]: reply}
                self.assertIs(self.asked(SHOWS[side], game, rows, **named), True)

    def test_other_replies(self):
        seen = {True: 0, False: 0}
        for game in SMALL:
            for side in judging.SIDES:
                for strategy, gains in judging.long_gains_against(game, side)[:6]:
                    rows = SOLVED[side](game, strategy)[0]
                    for reply in judging.strategies(game, judging.OTHER[side]):
                        found = shown(game, rows, side, strategy, reply)
                        self.assertIs(found, not broken(game, rows, side, strategy, reply))
                        chain = judging.pair_put_in(game, {side: strategy, judging.OTHER[side]: reply})
                        if judging.all_exact(long_gains(chain)) != gains:
                            self.assertIs(found, False)
                        seen[found] += 1
        self.assertGreater(min(seen.values()), 100)

    def test_rows_with_one_number_moved(self):
        seen = {True: 0, False: 0}
        for seed, game in enumerate(GAMES):
            for side in judging.SIDES:
                strategy = made_strategy(seed, game, side)
                rows, reply = SOLVED[side](game, strategy)
                for x in range(len(game)):
                    for by in (TINY, -TINY, Fraction(5), Fraction(-5)):
                        self.assertIs(shown(game, moved(rows, 0, x, by), side, strategy, reply), False)
                        other = moved(rows, 1, x, by)
                        found = shown(game, other, side, strategy, reply)
                        self.assertIs(found, not broken(game, other, side, strategy, reply))
                        seen[found] += 1
        self.assertGreater(min(seen.values()), 50)

    def test_both_halves_count(self):
        # The rows are lower rows, or upper ones with the reply, but not both.
        lower = ([(-3, 1), (-3, 1)], [(0, 1), (0, 1)])
        upper = ([(5, 1), (5, 1)], [(0, 1), (0, 1)])
        for rows in (lower, upper):
            for side, strategy, reply in (("ours", [0, None], [None, 1]), ("ours", [1, None], [None, 1]),
                                          ("theirs", [None, 1], [0, None])):
                self.assertIs(shown(OF_REPLIES, rows, side, strategy, reply), False)
        self.assertEqual(judging.faults(OF_REPLIES, lower, "ours", [0, None]), [])
        self.assertEqual(judging.faults(OF_REPLIES, upper, "theirs", [None, 1]), [])

    def test_rows_of_another_strategy(self):
        rows, reply = least_against(OF_REPLIES, [0, None])
        self.assertIs(self.asked(shows_least, OF_REPLIES, rows, ours=[1, None], theirs=reply), False)
        rows, reply = greatest_against(OF_REPLIES, [None, 1])
        self.assertIs(self.asked(shows_greatest, OF_REPLIES, rows, theirs=[None, 0], ours=reply), False)

    def test_rows_that_are_none(self):
        for seed, game in enumerate(GAMES[:40] + FULL[:2]):
            for side in judging.SIDES:
                strategy = made_strategy(seed, game, side)
                (gains, leads), reply = SOLVED[side](game, strategy)
                for rows in [(gains[:-1], leads), (gains, leads[:-1]), (gains + [(0, 1)], leads), ([], leads),
                             (gains, leads + [(0, 1)]), (gains, []), ([], []), (gains[1:], leads[1:]),
                             (gains + [number(7)], leads + [number(7)])]:
                    named = {side: strategy, judging.OTHER[side]: reply}
                    self.assertIs(self.asked(SHOWS[side], game, rows, **named), False)
