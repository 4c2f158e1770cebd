"""Lower and upper rows: points 23, 24 and 25."""

from fractions import Fraction

from tests import judging
from tests.support import Case, Dice, made_strategy, moved, way_on
from tests.worlds import BEYOND, FULL, GAMES, KNOWN, MADE, OF_REPLIES, SINGLES, SMALL

from meanhold.against import are_rows, greatest_against, is_lower, is_upper, least_against

TINY = Fraction(1, 10 ** 40)
CHANCES = [(1, 4), (1, 2), (1, 4)]
CHECKS = {"ours": is_lower, "theirs": is_upper}


def star(kind, far):
    """A place 1 of this kind that leads to the places 0, 2 and 3, which stay, each with the gain `far`."""
    branches = list(zip(CHANCES, [0, 2, 3])) if kind == "draw" else [0, 2, 3]
    game = [way_on(far, x) for x in range(4)]
    game[1] = ((1, 2), kind, branches)
    return game


class AreRows(Case):
    def test_a_number_for_each_place(self):
        for game in GAMES[:50] + FULL + [BEYOND]:
            many = len(game)
            for sizes, told in [((many, many), True), ((many + 1, many), False), ((many, many + 1), False),
                                ((many - 1, many), False), ((many, many - 1), False), ((0, many), False),
                                ((many, 0), False), ((0, 0), False), ((many + 1, many + 1), False),
                                ((many - 1, many - 1), False), ((many - 1, many + 1), False)]:
                rows = tuple([(10 ** 40 + k, 7 ** 50) for k in range(size)] for size in sizes)
                self.assertIs(self.asked(are_rows, game, rows), told)


class OneInequality(Case):
    """A star in which all inequalities are just met, and then one is broken alone."""

    def rows_of(self):
        return [(2, 1)] * 4, [(9, 2), (3, 1), (9, 2), (9, 2)]

    def look_at(self, side, game, rows, strategy, broken):
        """The check, beside the test's own look at what is broken."""
        self.assertEqual(judging.faults(game, rows, side, strategy), broken)
        self.assertIs(self.asked(CHECKS[side], game, rows, **{side: strategy}), not broken)

    def cases(self, side):
        """Games, strategies of the side, the told branch or None, and the sign that goes against the inequalities."""
        sign = 1 if side == "ours" else -1
        for kind in ("draw", "ours", "theirs"):
            for told in range(3) if kind == side else [None]:
                yield star(kind, 999 * sign), [None, told, None, None], told, sign

    def test_just_met(self):
        for side in judging.SIDES:
            for game, strategy, _, _ in self.cases(side):
                self.look_at(side, game, self.rows_of(), strategy, [])

    def test_one_is_broken_at_a_target(self):
        for side in judging.SIDES:
            for game, strategy, told, sign in self.cases(side):
                for k, target in enumerate([0, 2, 3]):
                    for which, name in enumerate(["gains", "leads"]):
                        rows = moved(self.rows_of(), which, target, -sign * TINY)
                        branch = None if game[1][1] == "draw" else k
                        counts = told is None or k == told
                        self.look_at(side, game, rows, strategy, [(side, 1, branch, name)] if counts else [])
                        self.look_at(side, game, moved(self.rows_of(), which, target, sign * TINY), strategy, [])

    def test_the_mean_counts_at_a_draw(self):
        for side, sign in (("ours", 1), ("theirs", -1)):
            game, strategy = star("draw", 999 * sign), [None] * 4
            for which, name in enumerate(["gains", "leads"]):
                rows = moved(moved(self.rows_of(), which, 0, -sign), which, 2, Fraction(sign, 2))
                self.look_at(side, game, rows, strategy, [])
                rows = moved(rows, which, 3, -sign * TINY)
                self.look_at(side, game, rows, strategy, [(side, 1, None, name)])

    def test_a_place_that_leads_to_itself(self):
        for kind in ("draw", "ours", "theirs"):
            game = [((5, 3), kind, [((1, 1), 0)] if kind == "draw" else [0])]
            for side, sign in (("ours", 1), ("theirs", -1)):
                strategy = [0 if kind == side else None]
                branch = None if kind == "draw" else 0
                for lead in ((0, 1), (-10 ** 50, 3), (7, 10 ** 50)):
                    self.look_at(side, game, ([(5, 3)], [lead]), strategy, [])
                    self.look_at(side, game, moved(([(5, 3)], [lead]), 0, 0, -sign * TINY), strategy, [])
                    self.look_at(side, game, moved(([(5, 3)], [lead]), 0, 0, sign * TINY), strategy,
                                 [(side, 0, branch, "leads")])

    def test_a_later_place_counts_as_well(self):
        game = [((0, 1), "ours", [0])] * 11 + [((-1, 1), "ours", [0, 11])]
        strategy = [0] * 11 + [1]
        self.look_at("ours", game, ([(0, 1)] * 11 + [(-1, 1)], [(0, 1)] * 12), strategy, [])
        self.look_at("ours", game, ([(0, 1)] * 12, [(0, 1)] * 12), strategy, [("ours", 11, 1, "leads")])
        self.look_at("ours", game, ([(0, 1)] * 12, [(0, 1)] * 11 + [(-1, 1)]), [0] * 12, [])


class RowsOfGames(Case):
    def test_the_example(self):
        rows = ([(4, 1), (-2, 1)], [(6, 1), (0, 1)])
        self.assertIs(self.asked(is_lower, OF_REPLIES, rows, ours=[0, None]), True)
        self.assertIs(self.asked(is_lower, OF_REPLIES, rows, ours=[1, None]), False)
        self.assertIs(self.asked(is_upper, OF_REPLIES, rows, theirs=[None, 1]), True)
        self.assertIs(self.asked(is_upper, OF_REPLIES, rows, theirs=[None, 0]), False)

    def test_rows_moved_in_games_of_all_sorts(self):
        seen = {(side, told): 0 for side in judging.SIDES for told in (True, False)}
        alone = set()
        for seed, game in enumerate(GAMES):
            dice = Dice(seed)
            for side, solved in (("ours", least_against), ("theirs", greatest_against)):
                strategy = made_strategy(seed, game, side)
                rows = solved(game, strategy)[0]
                for _ in range(8):
                    by = [TINY, -TINY, Fraction(-1, 3), Fraction(2)][dice.below(4)]
                    rows = moved(rows, dice.below(2), dice.below(len(game)), by)
                    broken = judging.faults(game, rows, side, strategy)
                    self.assertIs(CHECKS[side](game, rows, **{side: strategy}), not broken)
                    seen[side, not broken] += 1
                    if len(broken) == 1:
                        alone.add((side, game[broken[0][1]][1], broken[0][3]))
        self.assertGreater(min(seen.values()), 60)
        self.assertEqual(len(alone), 12)

    def test_rows_that_are_none(self):
        for seed, game in enumerate(KNOWN + SINGLES + MADE[:10] + FULL[:2]):
            for side, solved in (("ours", least_against), ("theirs", greatest_against)):
                strategy = made_strategy(seed, game, side)
                gains, leads = solved(game, strategy)[0]
                self.assertIs(CHECKS[side](game, (gains, leads), **{side: strategy}), True)
                for rows in [(gains[:-1], leads), (gains, leads[:-1]), (gains + [(0, 1)], leads), ([], leads),
                             (gains, leads + [(0, 1)]), (gains, []), ([], []), (gains[1:], leads[1:]),
                             (gains + gains[:1], leads + leads[:1])]:
                    self.assertIs(self.asked(CHECKS[side], game, rows, **{side: strategy}), False)

    def test_beyond_the_limits(self):
        for side, solved in (("ours", least_against), ("theirs", greatest_against)):
            strategy = made_strategy(1, BEYOND, side)
            rows = solved(BEYOND, strategy)[0]
            self.assertIs(self.asked(CHECKS[side], BEYOND, rows, **{side: strategy}), True)
            self.assertIs(CHECKS[side](BEYOND, moved(rows, 0, 13, 1), **{side: strategy}), False)
            self.assertIs(CHECKS[side](BEYOND, moved(rows, 0, 13, -1), **{side: strategy}), False)


class WhatRowsTell(Case):
    """Point 25."""

    def test_the_first_gains_keep_to_the_rows(self):
        others = 0
        for seed, game in enumerate(KNOWN + MADE[:25]):
            for side, solved, sign in (("ours", least_against, 1), ("theirs", greatest_against, -1)):
                strategy = made_strategy(seed, game, side)
                rows = solved(game, strategy)[0]
                sums = judging.worths_by_steps(judging.put_in(game, side, strategy), 1, 12)
                for x in range(len(game)):
                    other = moved(rows, 0, x, Fraction(-sign, 2))
                    if CHECKS[side](game, other, **{side: strategy}):
                        self.assert_kept(other, sums, sign)
                        others += 1
                self.assert_kept(rows, sums, sign)
        self.assertGreater(others, 5)

    def assert_kept(self, rows, sums, sign):
        g, h = self.all_exact(rows[0]), self.all_exact(rows[1])
        edge = max(sign * lead for lead in h)
        for n, found in enumerate(sums):
            for x, worth in enumerate(found):
                self.assertGreaterEqual(sign * worth, sign * (n * g[x] + h[x]) - edge)

    def test_the_gains_of_rows_are_never_beyond_the_long_gains(self):
        for game in SMALL:
            for side, sign in (("ours", 1), ("theirs", -1)):
                found = judging.long_gains_against(game, side)
                for strategy, gains in found[:6]:
                    for other, _ in found[-6:]:
                        rows = (least_against if side == "ours" else greatest_against)(game, other)[0]
                        if CHECKS[side](game, rows, **{side: strategy}):
                            for told, long in zip(self.all_exact(rows[0]), gains):
                                self.assertLessEqual(sign * told, sign * long)
