"""Lifted answers and the lift that an answer needs: points 29 and 31."""

from fractions import Fraction

from tests import judging
from tests.support import Case, made_strategy, moved, number, way_on
from tests.worlds import (BEYOND, GAMES, GIFT_ON_THE_WAY, KNOWN, LOSS_ON_THE_WAY, LURE, MADE, OF_VALUES, SINGLES, SLOW,
                          SMALL, TRAP, ours, theirs)

from meanhold.discounts import discounted_strategies
from meanhold.leads import leads, long_gains
from meanhold.means import answer_of, check_answer, lift_needed, lifted

LONG = Fraction(10 ** 60 + 1, 7 ** 40)


def chain_answer(game, mine, other):
    """The long gains and the leads of the chain of two strategies, and these."""
    chain = judging.pair_put_in(game, {"ours": mine, "theirs": other})
    return (long_gains(chain), leads(chain), mine, other)


def discounted_answer(game, discount):
    return chain_answer(game, *discounted_strategies(game, discount=discount))


class Lifted(Case):
    def test_told_answers(self):
        answer = ([(2, 1), (-1, 3), (0, 1)], [(1, 2), (0, 1), (-5, 1)], [0, None, None], [None, 1, None])
        self.assertEqual(self.asked(lifted, answer, by=(0, 1), plus=(0, 1)), answer)
        self.assertEqual(self.asked(lifted, answer, by=(3, 1), plus=(0, 1)),
                         (answer[0], [(13, 2), (-1, 1), (-5, 1)]) + answer[2:])
        self.assertEqual(self.asked(lifted, answer, by=(0, 1), plus=(-1, 2)),
                         (answer[0], [(0, 1), (-1, 2), (-11, 2)]) + answer[2:])
        self.assertEqual(self.asked(lifted, answer, by=(1, 2), plus=(5, 1)),
                         (answer[0], [(13, 2), (29, 6), (0, 1)]) + answer[2:])

    def test_each_lead_in_answers_of_all_sorts(self):
        for game in KNOWN + MADE[:15] + SINGLES + [BEYOND]:
            answer = answer_of(game)
            for by in (Fraction(0), Fraction(7, 3), LONG):
                for added in (Fraction(0), Fraction(-2, 5), -LONG):
                    found = self.asked(lifted, answer, by=number(by), plus=number(added))
                    self.assertIs(type(found), tuple)
                    self.assertEqual((found[0],) + found[2:], (answer[0],) + answer[2:])
                    self.assertEqual(self.all_exact(found[1]),
                                     [h + by * g + added for g, h in zip(*map(self.all_exact, answer[:2]))])

    def test_numbers_of_any_size_and_an_answer_that_is_not_right(self):
        long = number(LONG)
        found = self.asked(lifted, ([long], [long], [5], [None]), by=long, plus=long)
        self.assertEqual(found, ([long], [number(LONG * LONG + 2 * LONG)], [5], [None]))

    def test_a_right_answer_lifted_is_right(self):
        for game in GAMES + SLOW[:6]:
            answer = answer_of(game)
            for by, added in (((0, 1), (5, 2)), ((1, 3), (0, 1)), ((10 ** 30, 7), (-10 ** 40, 3))):
                found = lifted(answer, by=by, plus=added)
                self.assertEqual(judging.answer_faults(game, found), [])
                self.assertIs(check_answer(game, found), True)


class LiftNeeded(Case):
    def assert_least(self, game, answer, found):
        """The answer is right lifted by the number, and not if it is lifted by a little less."""
        self.assertIs(check_answer(game, lifted(answer, by=found, plus=(0, 1))), True)
        c = self.exact(found)
        self.assertGreaterEqual(c, 0)
        for less in (c / 10 ** 30, c / 2, c):
            if c > 0:
                self.assertIs(check_answer(game, lifted(answer, by=number(c - less), plus=(0, 1))), False)

    def test_told_games(self):
        for game, lift in ((LURE, (100, 1)), (TRAP, (5996, 5))):
            mine = [0 if place[1] == "ours" else None for place in game]
            other = [0 if place[1] == "theirs" else None for place in game]
            answer = chain_answer(game, mine, other)
            self.assertEqual(self.asked(lift_needed, game, answer), lift)
            self.assert_least(game, answer, lift)

    def test_no_lift_for_right_answers(self):
        for game in GAMES + SLOW[:6] + [BEYOND]:
            self.assertEqual(self.asked(lift_needed, game, answer_of(game)), (0, 1))

    def test_a_strategy_of_each_side_decides(self):
        # Several branches ask for a lift: the greatest one counts, of either side.
        game = [ours(0, 2, 3, 4, 5), theirs(0, 6, 3, 4, 5), way_on(2, 2), way_on(7, 6), way_on(9, 6), way_on(-8, 2),
                way_on(0, 6)]
        answer = chain_answer(game, [0] + [None] * 6, [None, 0] + [None] * 5)
        found = self.asked(lift_needed, game, answer)
        self.assertEqual(found, (5, 1))
        self.assert_least(game, answer, found)
        game[4] = way_on(21, 6)
        answer = chain_answer(game, [0] + [None] * 6, [None, 0] + [None] * 5)
        self.assertEqual(lift_needed(game, answer), (21, 2))
        self.assert_least(game, answer, (21, 2))

    def test_discounts_near_1(self):
        needed = 0
        for game in GAMES + SLOW + [BEYOND]:
            answer = discounted_answer(game, (10 ** 60, 10 ** 60 + 1))
            found = self.asked(lift_needed, game, answer)
            self.assertIsNotNone(found)
            self.assert_least(game, answer, found)
            needed += found > (0, 1)
        self.assertGreater(needed, 10)

    def test_none_where_the_gains_are_not_the_values(self):
        seen = 0
        for seed, game in enumerate(GAMES):
            answer = answer_of(game)
            for x in range(len(game)):
                for by in (Fraction(1, 10 ** 40), Fraction(-3)):
                    other = moved(answer[:2], 0, x, by) + answer[2:]
                    self.assertIsNone(self.asked(lift_needed, game, other))
            other = chain_answer(game, made_strategy(seed, game, "ours"), made_strategy(seed, game, "theirs"))
            if other[0] != answer[0]:
                self.assertIsNone(self.asked(lift_needed, game, other))
                seen += 1
        self.assertGreater(seen, 50)

    def test_none_where_leads_are_wrong_at_equal_gains(self):
        self.assertIsNone(self.asked(lift_needed, LOSS_ON_THE_WAY, chain_answer(LOSS_ON_THE_WAY, [1, None, None],
                                                                                [None] * 3)))
        self.assertIsNone(self.asked(lift_needed, GIFT_ON_THE_WAY, chain_answer(GIFT_ON_THE_WAY, [None] * 3,
                                                                                [1, None, None])))
        gains, ahead, mine, other = answer_of(OF_VALUES)
        for x in range(3):
            for by in (Fraction(1, 10 ** 40), -1):
                rows = moved((gains, ahead), 1, x, by)
                self.assertIsNone(self.asked(lift_needed, OF_VALUES, rows + (mine, other)))

    def test_all_strategies_of_small_games(self):
        seen = {"none": 0, "nothing": 0, "some": 0}
        for game in SMALL:
            for mine in judging.strategies(game, "ours")[:9]:
                for other in judging.strategies(game, "theirs")[:9]:
                    answer = chain_answer(game, mine, other)
                    found = lift_needed(game, answer)
                    if found is None:
                        for by in ((0, 1), (1, 1), (10 ** 9, 1)):
                            self.assertIs(check_answer(game, lifted(answer, by=by, plus=(0, 1))), False)
                    else:
                        self.assert_least(game, answer, found)
                    seen["none" if found is None else "nothing" if found == (0, 1) else "some"] += 1
        self.assertGreater(min(seen.values()), 5)

    def test_numbers_of_any_size(self):
        long = 10 ** 70
        rows = ([(1, 1), (1, 1), (0, 1), (0, 1)], [(-1, 1), (0, 1), (long + 100, 1), (long, 1)])
        answer = rows + ([0, None, None, None], [None] * 4)
        self.assertEqual(self.asked(lift_needed, LURE, answer), (long + 100, 1))
        self.assert_least(LURE, answer, (long + 100, 1))
