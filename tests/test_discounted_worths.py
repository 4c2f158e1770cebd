"""Discounted worths and discounted strategies: points 17 and 18."""

from fractions import Fraction

from tests import judging
from tests.support import Case, SINGLE, draw, made_strategy, number, way_on
from tests.worlds import (BEYOND, DISCOUNTS, EQUALS, FULL, GAMES, IDLE, KNOWN, LONG_DISCOUNT, NO_DRAWS, OF_DISCOUNTS,
                          ONE_SIDED, SINGLES, SLOW, SOME_CHAINS, ours, theirs)

from meanhold.discounts import are_worths, discounted_strategies, discounted_worths
from meanhold.games import with_strategy

TINY = Fraction(1, 10 ** 50)


class DiscountedWorths(Case):
    def look_at(self, game, discount):
        """The worths, after it has been looked at that they solve the equations of point 17."""
        d = self.exact(discount)
        worths = self.all_exact(self.asked(discounted_worths, game, discount=discount))
        self.assertEqual(len(worths), len(game))
        for place, worth in zip(game, worths):
            self.assertEqual(worth, self.exact(place[0]) + d * judging.reached(place, worths))
        return worths

    def test_told_games(self):
        self.assertEqual(self.asked(discounted_worths, OF_DISCOUNTS, discount=(1, 2)), [(10, 3), (14, 3)])
        self.assertEqual(self.asked(discounted_worths, OF_DISCOUNTS, discount=(1, 100)),
                         [(10300, 9999), (30100, 9999)])
        self.assertEqual(self.asked(discounted_worths, SINGLE, discount=(9, 10)), [(35, 1)])
        self.assertEqual(self.asked(discounted_worths, [ours(2, 0, 1), theirs(-1, 0, 1)], discount=(1, 2)),
                         [(4, 1), (-2, 1)])
        self.assertEqual(self.asked(discounted_worths, [ours(0, 1, 2), way_on(4, 3), way_on(0, 4), way_on(0, 3),
                                                        way_on(9, 4)], discount=(1, 4)),
                         [(1, 1), (4, 1), (3, 1), (0, 1), (12, 1)])
        self.assertEqual(self.asked(discounted_worths, IDLE, discount=(99, 100)), [(0, 1)] * 3)

    def test_the_best_branch_changes_with_the_discount(self):
        game = [ours(0, 1, 2), way_on(4, 3), way_on(0, 4), way_on(0, 3), way_on(9, 4)]
        for discount, best in [((1, 4), 0), ((4, 13), 0), ((400, 1299), 1), ((1, 2), 1), ((99, 100), 1)]:
            self.look_at(game, discount)
            self.assertEqual(discounted_strategies(game, discount=discount)[0][0], best)

    def test_the_equations_in_games_of_all_sorts(self):
        for game in GAMES:
            for discount in DISCOUNTS:
                self.look_at(game, discount)

    def test_a_discount_very_near_to_1(self):
        for game in KNOWN + FULL + SLOW:
            self.look_at(game, LONG_DISCOUNT)
            self.look_at(game, (1, 10 ** 60))

    def test_beyond_the_limits(self):
        self.look_at(BEYOND, (100003, 100019))

    def test_all_sorts_are_there(self):
        kinds = [{place[1] for place in game} for game in GAMES]
        self.assertGreater(kinds.count({"draw", "ours", "theirs"}), 40)
        self.assertGreater(kinds.count({"ours", "theirs"}), 15)
        self.assertGreater(len(ONE_SIDED), 8)
        self.assertTrue({"ours", "theirs"} <= {kind for game in ONE_SIDED for kind in {place[1] for place in game}})
        self.assertGreater(kinds.count({"draw"}), 3)
        for game in FULL:
            self.assertEqual((len(game), {len(place[2]) for place in game}), (12, {6}))


class AreWorths(Case):
    def test_the_worths_and_others(self):
        for game in KNOWN + SOME_CHAINS + NO_DRAWS[:5] + FULL[:3] + SINGLES:
            for discount in DISCOUNTS:
                worths = discounted_worths(game, discount=discount)
                self.assertIs(self.asked(are_worths, game, worths, discount=discount), True)
                for x, worth in enumerate(worths):
                    for moved in (TINY, -TINY, 1, -1):
                        others = worths[:x] + [number(self.exact(worth) + moved)] + worths[x + 1:]
                        self.assertIs(are_worths(game, others, discount=discount), False)

    def test_lists_of_another_length(self):
        for game in KNOWN + SINGLES:
            worths = discounted_worths(game, discount=(9, 10))
            for others in (worths[:-1], worths[1:], [], worths + [(0, 1)], worths + worths[:1], worths + worths):
                self.assertIs(self.asked(are_worths, game, others, discount=(9, 10)), False)

    def test_worths_for_another_discount(self):
        told = 0
        for game in KNOWN:
            found = [discounted_worths(game, discount=discount) for discount in DISCOUNTS]
            for k, discount in enumerate(DISCOUNTS):
                for j, worths in enumerate(found):
                    self.assertIs(are_worths(game, worths, discount=discount), worths == found[k])
                    told += worths != found[k]
        self.assertGreater(told, 150)

    def test_numbers_of_any_size(self):
        self.assertIs(self.asked(are_worths, SINGLE, [(7 * 10 ** 90, 2)], discount=(1, 2)), False)
        self.assertIs(self.asked(are_worths, SINGLE, [(7, 1)], discount=(1, 2)), True)
        self.assertIs(self.asked(are_worths, OF_DISCOUNTS, [(10 ** 80, 3), (-1, 10 ** 70)], discount=(1, 2)), False)
        discount = (10 ** 40, 10 ** 40 + 1)
        worths = [(7 * (10 ** 40 + 1), 2)]
        self.assertIs(self.asked(are_worths, SINGLE, worths, discount=discount), True)
        self.assertIs(self.asked(are_worths, SINGLE, [number(Fraction(*worths[0]) + TINY)], discount=discount), False)

    def test_the_wrong_choice_at_a_place_of_a_side(self):
        game = [ours(0, 1, 2), way_on(1, 1), way_on(3, 2), theirs(0, 1, 2)]
        self.assertIs(are_worths(game, [(3, 1), (2, 1), (6, 1), (1, 1)], discount=(1, 2)), True)
        self.assertIs(are_worths(game, [(1, 1), (2, 1), (6, 1), (1, 1)], discount=(1, 2)), False)
        self.assertIs(are_worths(game, [(3, 1), (2, 1), (6, 1), (3, 1)], discount=(1, 2)), False)
        self.assertIs(are_worths(game, [(2, 1), (2, 1), (6, 1), (2, 1)], discount=(1, 2)), False)

    def test_worths_of_a_worse_strategy(self):
        others = 0
        for game in GAMES[:60]:
            right = discounted_worths(game, discount=(9, 10))
            for side in judging.SIDES:
                told = with_strategy(game, side, made_strategy(3, game, side))
                worths = discounted_worths(told, discount=(9, 10))
                self.assertIs(are_worths(game, worths, discount=(9, 10)), worths == right)
                others += worths != right
        self.assertGreater(others, 40)


class DiscountedStrategies(Case):
    def first_best(self, place, side, worths):
        if place[1] != side:
            return None
        numbers = [worths[target] for target in place[2]]
        return numbers.index((max if side == "ours" else min)(numbers))

    def test_the_first_best_branch_and_none_elsewhere(self):
        for game in GAMES + SLOW:
            for discount in DISCOUNTS + [LONG_DISCOUNT]:
                worths = judging.all_exact(discounted_worths(game, discount=discount))
                found = self.asked(discounted_strategies, game, discount=discount)
                self.assertIs(type(found), tuple)
                self.assertEqual(list(found), [[self.first_best(place, side, worths) for place in game]
                                               for side in judging.SIDES])

    def test_equal_branches(self):
        for discount in DISCOUNTS:
            mine, other = discounted_strategies(EQUALS, discount=discount)
            self.assertEqual(mine[0], 1)
            self.assertEqual(other[6], 1)
            self.assertEqual(discounted_strategies(IDLE, discount=discount), ([0, None, None], [None, 0, None]))
        self.assertEqual(self.asked(discounted_strategies, [ours(1, 0, 0), theirs(1, 0, 1, 1, 0), draw(0, (1, 1))],
                                    discount=(1, 3)), ([0, None, None], [None, 0, None]))
        self.assertEqual(discounted_strategies([ours(1, 1, 0, 0), theirs(2, 0, 1, 0)], discount=(1, 3)),
                         ([0, None], [None, 0]))
        self.assertEqual(discounted_strategies([ours(3, 1, 0, 0), theirs(2, 0, 1, 1)], discount=(1, 3)),
                         ([1, None], [None, 1]))

    def test_a_single_place(self):
        for game in SINGLES:
            mine, other = self.asked(discounted_strategies, game, discount=(1, 2))
            self.assertEqual(mine, [0 if game[0][1] == "ours" else None])
            self.assertEqual(other, [0 if game[0][1] == "theirs" else None])

    def test_put_in_they_leave_the_worths(self):
        for game in GAMES:
            for discount in ((99, 100), (100003, 100019)):
                worths = discounted_worths(game, discount=discount)
                mine, other = discounted_strategies(game, discount=discount)
                one = with_strategy(game, "ours", mine)
                self.assertEqual(discounted_worths(one, discount=discount), worths)
                self.assertEqual(discounted_worths(with_strategy(game, "theirs", other), discount=discount), worths)
                self.assertEqual(discounted_worths(with_strategy(one, "theirs", other), discount=discount), worths)
