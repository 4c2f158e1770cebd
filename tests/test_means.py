"""Values, best strategies and right answers: points 27 and 28."""

from fractions import Fraction

from tests import judging
from tests.support import Case, moved, number, way_on
from tests.worlds import (BEYOND, EQUALS, FULL, GAMES, GIFT_ON_THE_WAY, IDLE, KNOWN, LOSS_ON_THE_WAY, LURE, MADE,
                          NO_DRAWS, OF_REPLIES, OF_VALUES, SINGLES, SLOW, SMALL, SOME_CHAINS, TRAP, ours, theirs)

from meanhold.leads import leads, long_gains
from meanhold.means import answer_of, check_answer, is_best, values
from meanhold.plays import gain_per_step, play_of

TINY = Fraction(1, 10 ** 40)


class Values(Case):
    def test_told_games(self):
        self.assertEqual(self.asked(values, OF_VALUES), [(3, 1)] * 3)
        self.assertEqual(self.asked(values, OF_REPLIES), [(4, 1), (-2, 1)])
        self.assertEqual(self.asked(values, LURE), [(1, 1), (1, 1), (0, 1), (0, 1)])
        self.assertEqual(self.asked(values, TRAP), [(-1, 2), (-1, 2), (1, 3), (1, 3)])
        self.assertEqual(self.asked(values, IDLE), [(0, 1)] * 3)
        self.assertEqual(self.asked(values, EQUALS), [(2, 1)] * 3 + [(1, 1)] + [(2, 1)] * 2 + [(-2, 1)] * 5 + [(2, 1)])
        self.assertEqual([self.asked(values, game) for game in SINGLES],
                         [[(7, 2)], [(-7, 3)], [(999, 1)], [(-999, 1)], [(1, 2)]])

    def test_over_all_strategies_of_both_sides(self):
        apart = 0
        for game in SMALL:
            found = self.all_exact(self.asked(values, game))
            self.assertEqual(found, judging.values(game, "ours"))
            self.assertEqual(found, judging.values(game, "theirs"))
            apart += len(set(found)) > 1
        self.assertGreater(apart, 10)

    def test_chains(self):
        for chain in SOME_CHAINS + [game for game in GAMES if {place[1] for place in game} == {"draw"}]:
            self.assertEqual(self.asked(values, chain), long_gains(chain))

    def test_games_without_draws(self):
        for game in NO_DRAWS:
            found = self.asked(values, game)
            _, _, mine, other = answer_of(game)
            for x in range(len(game)):
                beginning, circle = play_of(game, x, ours=mine, theirs=other)
                self.assertEqual(found[x], gain_per_step(game, x, beginning, circle))

    def test_plays_of_all_strategies(self):
        looked_at = 0
        for game in NO_DRAWS:
            mine, others = judging.strategies(game, "ours"), judging.strategies(game, "theirs")
            if len(mine) * len(others) > 300:
                continue
            looked_at += 1
            found = self.all_exact(values(game))
            for x in range(len(game)):
                gains = [[self.exact(gain_per_step(game, x, *play_of(game, x, ours=one, theirs=other)))
                          for other in others] for one in mine]
                self.assertEqual(found[x], max(min(row) for row in gains))
                self.assertEqual(found[x], min(max(column) for column in zip(*gains)))
        self.assertGreater(looked_at, 8)

    def test_they_are_the_gains_of_an_answer(self):
        for game in GAMES + SLOW + [BEYOND]:
            self.assertEqual(self.asked(values, game), answer_of(game)[0])

    def test_gains_that_hardly_differ(self):
        # Only a discount that is very near to 1 tells the branches apart.
        game = [ours(0, 1, 2), way_on("1/999", 1), way_on(999, 3), way_on("1/998", 4), way_on("1/997", 3),
                theirs(0, 6, 7), way_on("1/998", 6), way_on(999, 8), way_on("1/999", 8)]
        self.assertEqual(self.asked(values, game)[0], number((Fraction(1, 998) + Fraction(1, 997)) / 2))
        self.assertEqual(values(game)[5], (1, 999))
        game = [ours(0, 1, 2), way_on(999, 3), way_on(-999, 4), way_on("1/999", 3), way_on("1/998", 4)]
        self.assertEqual(values(game)[0], (1, 998))

    def test_places_that_are_hardly_ever_reached(self):
        many = 11
        game = [ours(0, 0, 1)] + [((0, 1), "draw", [((998, 999), 0), ((1, 999), x + 1)]) for x in range(1, many)]
        game += [theirs(1, 0, many)]
        self.assertEqual(self.asked(values, game), answer_of(game)[0])
        self.assertEqual(judging.answer_faults(game, answer_of(game)), [])
        self.assertGreater(self.exact(values(game)[0]), 0)
        self.assertLess(self.exact(values(game)[0]), Fraction(1, 998 ** 10))


class AnswerOf(Case):
    def look_at(self, game):
        """A right answer, by the test's own look at the inequalities; so its gains are the values."""
        answer = self.asked(answer_of, game)
        self.assertEqual((type(answer), len(answer)), (tuple, 4))
        for numbers in answer[:2]:
            self.assertEqual(len(self.all_exact(numbers)), len(game))
        for side, strategy in zip(judging.SIDES, answer[2:]):
            self.assertTrue(judging.is_strategy(game, side, strategy))
        self.assertEqual(judging.answer_faults(game, answer), [])
        self.assertIs(self.asked(check_answer, game, answer), True)
        return answer

    def test_games_of_all_sorts(self):
        for game in GAMES:
            self.look_at(game)

    def test_games_that_only_long_plays_decide(self):
        for game in SLOW:
            self.look_at(game)

    def test_beyond_the_limits(self):
        self.look_at(BEYOND)

    def test_the_gains_are_the_values(self):
        for game in SMALL:
            self.assertEqual(self.all_exact(answer_of(game)[0]), judging.values(game, "ours"))


def two_ways(kind, target_gains):
    """A place 0 with the gain 2 and this kind that leads to three places that stay, with these gains."""
    branches = [((1, 2), 1), ((1, 2), 2)] if kind == "draw" else [1, 2, 3]
    return [((2, 1), kind, branches)] + [way_on(gain, x + 1) for x, gain in enumerate(target_gains)]


class CheckAnswer(Case):
    def assert_broken(self, game, rows, mine, other, broken):
        """Just this inequality does not hold, and the answer is not right."""
        answer = tuple([number(found) for found in numbers] for numbers in rows) + (mine, other)
        self.assertEqual(judging.answer_faults(game, answer), broken)
        self.assertIs(self.asked(check_answer, game, answer), not broken)

    def test_one_inequality_at_a_draw(self):
        game, none = two_ways("draw", [5, 5, 5]), [None] * 4
        leads_told = [-3, 0, 0, 0]
        self.assert_broken(game, ([5] * 4, leads_told), none, none, [])
        for by in (TINY, Fraction(2)):
            self.assert_broken(game, ([5 + by, 5, 5, 5], [-3 - by, 0, 0, 0]), none, none, [("ours", 0, None, "gains")])
            self.assert_broken(game, ([5 - by, 5, 5, 5], [-3 + by, 0, 0, 0]), none, none,
                               [("theirs", 0, None, "gains")])
            self.assert_broken(game, ([5] * 4, [-3 + by, 0, 0, 0]), none, none, [("ours", 0, None, "leads")])
            self.assert_broken(game, ([5] * 4, [-3 - by, 0, 0, 0]), none, none, [("theirs", 0, None, "leads")])
            self.assert_broken(game, ([5] * 4, [-3, 0, 0, -by]), none, none, [])

    def test_one_inequality_at_a_place_of_a_side(self):
        for side, sign in (("ours", 1), ("theirs", -1)):
            none, told, foe = [None] * 4, [0, None, None, None], judging.OTHER[side]
            mine, other = (told, none) if side == "ours" else (none, told)
            for by in (TINY, Fraction(2)):
                by = sign * by
                game = two_ways(side, [5, 5, 5])
                self.assert_broken(game, ([5] * 4, [-3, 0, 0, 0]), mine, other, [])
                self.assert_broken(game, ([5 + by, 5, 5, 5], [-3 - by, 0, 0, 0]), mine, other, [(side, 0, 0, "gains")])
                self.assert_broken(game, ([5] * 4, [-3 + by, 0, 0, 0]), mine, other, [(side, 0, 0, "leads")])
                self.assert_broken(game, ([5] * 4, [-3, 0, by, 0]), mine, other, [(foe, 0, 1, "leads")])
                self.assert_broken(game, ([5] * 4, [-3, 0, 0, by]), mine, other, [(foe, 0, 2, "leads")])
                self.assert_broken(game, ([5] * 4, [-3 - by, 0, -by, -by]), mine, other, [(foe, 0, 0, "leads")])
                game = two_ways(side, [5, 5, 5 + by])
                self.assert_broken(game, ([5, 5, 5, 5 + by], [-3, 0, 0, 0]), mine, other, [(foe, 0, 2, "gains")])
                game = two_ways(side, [5, 5 - by, 5 - by])
                self.assert_broken(game, ([5, 5, 5 - by, 5 - by], [-3, 0, 0, 0]), mine, other, [])
                self.assert_broken(game, ([5 - by, 5, 5 - by, 5 - by], [-3 + by, 0, 0, 0]), mine, other,
                                   [(foe, 0, 0, "gains")])

    def test_numbers_moved_in_games_of_all_sorts(self):
        seen = {True: 0, False: 0}
        for game in GAMES:
            answer = answer_of(game)
            for x in range(len(game)):
                for which in (0, 1):
                    for by in (TINY, -TINY, Fraction(11, 3)):
                        other = moved(answer[:2], which, x, by) + answer[2:]
                        found = check_answer(game, other)
                        self.assertIs(found, not judging.answer_faults(game, other))
                        seen[found] += 1
        self.assertGreater(min(seen.values()), 100)

    def test_other_strategies(self):
        seen = {True: 0, False: 0}
        for game in SMALL:
            rows = answer_of(game)[:2]
            for mine in judging.strategies(game, "ours")[:12]:
                for other in judging.strategies(game, "theirs")[-12:]:
                    answer = rows + (mine, other)
                    found = check_answer(game, answer)
                    self.assertIs(found, not judging.answer_faults(game, answer))
                    seen[found] += 1
        self.assertGreater(min(seen.values()), 100)

    def test_lists_of_a_wrong_length(self):
        for game in KNOWN + SINGLES + MADE[:10] + FULL[:2]:
            answer = answer_of(game)
            for which in range(4):
                added = [(0, 1)] if which < 2 else [None]
                for wrong in (answer[which] + added, answer[which] + answer[which][:1], answer[which][:-1],
                              answer[which][1:], [], answer[which] * 2):
                    if wrong != answer[which]:
                        other = answer[:which] + (wrong,) + answer[which + 1:]
                        self.assertIs(self.asked(check_answer, game, other), False)
            for others in ([numbers[:-1] for numbers in answer], [[], [], [], []],
                           [numbers + numbers[:1] for numbers in answer]):
                self.assertIs(self.asked(check_answer, game, tuple(others)), False)

    def test_lists_that_are_no_strategies(self):
        for game in KNOWN + SINGLES + MADE[:10] + FULL[:2]:
            answer = answer_of(game)
            for which, side in ((2, "ours"), (3, "theirs")):
                for x, place in enumerate(game):
                    many = len(place[2])
                    wrong = [None, -1, -many, many, many + 1, 10 ** 30] if place[1] == side else [0, many - 1, -1, many]
                    for told in wrong:
                        strategy = answer[which][:x] + [told] + answer[which][x + 1:]
                        other = answer[:which] + (strategy,) + answer[which + 1:]
                        self.assertIs(self.asked(check_answer, game, other), False)

    def test_the_strategies_exchanged(self):
        gains, ahead, mine, other = answer_of(OF_REPLIES)
        self.assertIs(self.asked(check_answer, OF_REPLIES, (gains, ahead, other, mine)), False)

    def test_numbers_of_any_size(self):
        long = 10 ** 200
        game = [way_on(3, 0), way_on(3, 1)]
        self.assertIs(self.asked(check_answer, game, ([(3, 1)] * 2, [(long, 7), (-long, 9)], [None] * 2, [None] * 2)),
                      True)
        self.assertIs(self.asked(check_answer, game, ([(3, 1), (3 * long + 1, long)], [(long, 7), (-long, 9)],
                                                      [None] * 2, [None] * 2)), False)

    def test_best_strategies_that_do_not_stand_together(self):
        for game, side in ((LOSS_ON_THE_WAY, "ours"), (GIFT_ON_THE_WAY, "theirs")):
            told, none = [1, None, None], [None] * 3
            mine, other = (told, none) if side == "ours" else (none, told)
            self.assertIs(is_best(game, mine, side="ours"), True)
            self.assertIs(is_best(game, other, side="theirs"), True)
            chain = judging.put_in(game, side, told)
            for ahead in (leads(chain), answer_of(game)[1], [(-5, 1), (0, 1), (-5, 1)], [(0, 1)] * 3):
                self.assertIs(self.asked(check_answer, game, ([(0, 1)] * 3, ahead, mine, other)), False)


class IsBest(Case):
    def test_over_all_strategies(self):
        seen = {True: 0, False: 0}
        for game in SMALL:
            for side in judging.SIDES:
                found = judging.values(game, side)
                for strategy, gains in judging.long_gains_against(game, side):
                    told = self.asked(is_best, game, strategy, side=side)
                    self.assertIs(told, gains == found)
                    seen[told] += 1
        self.assertGreater(min(seen.values()), 100)

    def test_the_strategies_of_answers(self):
        for game in GAMES + SLOW + [BEYOND]:
            _, _, mine, other = answer_of(game)
            self.assertIs(is_best(game, mine, side="ours"), True)
            self.assertIs(is_best(game, other, side="theirs"), True)

    def test_several_best_strategies(self):
        for told in (0, 1):
            self.assertIs(self.asked(is_best, LOSS_ON_THE_WAY, [told, None, None], side="ours"), True)
            self.assertIs(self.asked(is_best, GIFT_ON_THE_WAY, [told, None, None], side="theirs"), True)
        self.assertIs(self.asked(is_best, LURE, [0, None, None, None], side="ours"), True)
        self.assertIs(self.asked(is_best, LURE, [1, None, None, None], side="ours"), False)
        self.assertIs(self.asked(is_best, TRAP, [0, None, None, None], side="theirs"), True)
        self.assertIs(self.asked(is_best, TRAP, [1, None, None, None], side="theirs"), False)
        self.assertIs(self.asked(is_best, TRAP, [None, None, None, None], side="ours"), True)

    def test_best_from_one_place_alone_is_not_best(self):
        game = [ours(2, 0, 1), way_on(0, 1), ours(0, 0, 1)]
        self.assertIs(self.asked(is_best, game, [0, None, 0], side="ours"), True)
        self.assertIs(self.asked(is_best, game, [0, None, 1], side="ours"), False)
        self.assertIs(self.asked(is_best, game, [1, None, 0], side="ours"), False)
