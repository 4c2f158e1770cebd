"""Slacks and what the rows of a right answer tell: points 30 and 32."""

from fractions import Fraction

from tests import judging
from tests.support import Case, Dice, draw, number, way_on
from tests.worlds import BEYOND, FULL, GAMES, KNOWN, LURE, MADE, OF_VALUES, SINGLES, SLOW, SMALL, ours, theirs

from meanhold.means import answer_of, is_best
from meanhold.slacks import slacks, steps_for, sums_at_least, sums_at_most, tight_branches

LONG = Fraction(10 ** 60 + 1, 7 ** 40)
TINY = Fraction(1, 10 ** 50)


def made_rows(seed, game):
    """Rows of a game whose numbers are short, or long, or nothing at all."""
    dice = Dice(seed + 77)
    return tuple([[dice.gain(), dice.gain(), number(LONG * (dice.below(9) - 4)), (0, 1)][dice.below(4)] for _ in game]
                 for _ in range(2))


class Slacks(Case):
    def slack(self, x, gain, rows, behind):
        g, h = rows
        return (sum(chance * g[y] for chance, y in behind) - g[x],
                gain + sum(chance * h[y] for chance, y in behind) - g[x] - h[x])

    def slack_is(self, found, expected):
        self.assertIs(type(found), tuple)
        self.assertEqual(tuple(self.all_exact(list(found))), expected)

    def look_at(self, game, rows):
        """The slacks of all branches and draws, and which of them are tight, by the test's own sums."""
        found = self.asked(slacks, game, rows)
        tight = self.asked(tight_branches, game, rows)
        self.assertEqual((type(found), len(found), type(tight), len(tight)), (list, len(game), list, len(game)))
        numbers = [self.all_exact(row) for row in rows]
        for x, (gain, kind, branches) in enumerate(game):
            if kind == "draw":
                behind = [(Fraction(*chance), y) for chance, y in branches]
                self.slack_is(found[x], self.slack(x, Fraction(*gain), numbers, behind))
                self.assertIsNone(tight[x])
            else:
                self.assertIs(type(found[x]), list)
                self.assertEqual(len(found[x]), len(branches))
                told = [self.slack(x, Fraction(*gain), numbers, [(1, y)]) for y in branches]
                for one, expected in zip(found[x], told):
                    self.slack_is(one, expected)
                self.assertEqual(tight[x], [k for k, one in enumerate(told) if one == (0, 0)])
        return tight

    def test_told_rows(self):
        game = [ours(3, 1, 0, 1), theirs("-1/2", 0, 2), draw(2, ("1/3", 0), ("2/3", 2))]
        rows = ([(1, 1), (3, 1), (4, 1)], [(2, 1), (0, 1), (-3, 2)])
        self.assertEqual(self.asked(slacks, game, rows),
                         [[((2, 1), (0, 1)), ((0, 1), (2, 1)), ((2, 1), (0, 1))],
                          [((-2, 1), (-3, 2)), ((1, 1), (-5, 1))], ((-1, 1), (-5, 6))])
        self.assertEqual(self.asked(tight_branches, game, rows), [[], [], None])
        rows = ([(3, 1)] * 3, [(1, 1), (1, 1), (9, 2)])
        self.assertEqual(self.asked(slacks, game, rows)[:2],
                         [[((0, 1), (0, 1)), ((0, 1), (0, 1)), ((0, 1), (0, 1))],
                          [((0, 1), (-7, 2)), ((0, 1), (0, 1))]])
        self.assertEqual(self.asked(tight_branches, game, rows), [[0, 1, 2], [1], None])

    def test_one_number_of_the_slack_is_not_enough(self):
        game = [ours(0, 0, 1, 2, 3), way_on(0, 1), way_on(1, 2), way_on(0, 3)]
        rows = ([(0, 1), (0, 1), (1, 1), (0, 1)], [(0, 1), (0, 1), (0, 1), (1, 10 ** 50)])
        self.assertEqual(self.asked(tight_branches, game, rows), [[0, 1], None, None, None])

    def test_rows_of_all_sorts(self):
        some = 0
        for seed, game in enumerate(GAMES + [BEYOND]):
            tight = self.look_at(game, made_rows(seed, game))
            some += [] in tight
            self.look_at(game, ([number(LONG)] * len(game), [number(-LONG)] * len(game)))
        self.assertGreater(some, 50)

    def test_right_answers(self):
        for game in GAMES + SLOW[:6]:
            gains, leads, mine, other = answer_of(game)
            tight = self.look_at(game, (gains, leads))
            for place, slack, branches, told in zip(game, slacks(game, (gains, leads)), tight,
                                                    [a if b is None else b for a, b in zip(mine, other)]):
                if place[1] == "draw":
                    self.assertEqual(slack, ((0, 1), (0, 1)))
                else:
                    self.assertIn(told, branches)
                    sign = -1 if place[1] == "ours" else 1
                    for pair in slack:
                        self.assertTrue(all(sign * n >= 0 for n, _ in pair))

    def test_strategies_that_tell_tight_branches_alone_are_best(self):
        for game in SMALL + KNOWN:
            tight = tight_branches(game, answer_of(game)[:2])
            for side in judging.SIDES:
                for last in (0, -1):
                    strategy = [found[last] if place[1] == side else None for place, found in zip(game, tight)]
                    self.assertIs(is_best(game, strategy, side=side), True)


class Sums(Case):
    def test_told_rows(self):
        rows = ([(1, 1), (1, 2), (-3, 1)], [(2, 1), (0, 1), (-3, 2)])
        for place, count, low, high in [(0, 0, (0, 1), (7, 2)), (0, 1, (1, 1), (9, 2)), (0, 1000, (1000, 1), (2007, 2)),
                                        (1, 0, (-2, 1), (3, 2)), (1, 1, (-3, 2), (2, 1)),
                                        (1, 1000, (498, 1), (1003, 2)),
                                        (2, 1, (-13, 2), (-3, 1)), (2, 1000, (-6007, 2), (-3000, 1))]:
            self.assertEqual(self.asked(sums_at_least, rows, place, count), low)
            self.assertEqual(self.asked(sums_at_most, rows, place, count), high)

    def test_rows_of_all_sorts(self):
        for seed, game in enumerate(GAMES[:60] + [BEYOND]):
            rows = made_rows(seed, game)
            g, h = self.all_exact(rows[0]), self.all_exact(rows[1])
            for x in range(len(game)):
                for count in (0, 1, 2, 1000, 1003):
                    due = count * g[x] + h[x]
                    self.assertEqual(self.exact(self.asked(sums_at_least, rows, x, count)), due - max(h))
                    self.assertEqual(self.exact(self.asked(sums_at_most, rows, x, count)), due - min(h))

    def test_the_first_gains_keep_to_them(self):
        for game in KNOWN + MADE[:20] + FULL[:3]:
            gains, leads, mine, other = answer_of(game)
            rows = (gains, leads)
            by_us = judging.worths_by_steps(judging.put_in(game, "ours", mine), 1, 10)
            by_them = judging.worths_by_steps(judging.put_in(game, "theirs", other), 1, 10)
            for n in range(11):
                for x in range(len(game)):
                    self.assertGreaterEqual(by_us[n][x], self.exact(sums_at_least(rows, x, n)))
                    self.assertLessEqual(by_them[n][x], self.exact(sums_at_most(rows, x, n)))


class StepsFor(Case):
    def test_a_spread_of_nothing(self):
        for leads in ([(0, 1)], [(5, 3)] * 4, [(-7, 1)] * 12):
            for near in ((1, 1), (1, 10 ** 90), (10 ** 90, 1)):
                self.assertEqual(self.asked(steps_for, ([(k, 1) for k, _ in enumerate(leads)], leads), near=near), 1)

    def test_told_rows(self):
        rows = ([(9, 1)] * 3, [(2, 1), (-3, 2), (0, 1)])
        for near, steps in [((7, 2), 1), ((4, 1), 1), ((10 ** 50, 1), 1), ((7, 4), 2), ((2, 1), 2), ((7, 6), 3),
                            ((6, 5), 3), ((1, 1), 4), ((1, 2), 7), ((499, 1000), 8), ((7, 2000), 1000),
                            ((1, 10 ** 40), 35 * 10 ** 39)]:
            self.assertEqual(self.asked(steps_for, rows, near=near), steps)

    def test_just_near_enough_and_a_little_off(self):
        for seed, game in enumerate([OF_VALUES, LURE] + SINGLES + MADE + FULL):
            for rows in (made_rows(seed, game), answer_of(game)[:2]):
                leads = self.all_exact(rows[1])
                wide = max(leads) - min(leads)
                for steps in (1, 2, 3, 100, 10 ** 20 + 7):
                    if wide > 0:
                        near = wide / steps
                        self.assertEqual(self.asked(steps_for, rows, near=number(near)), steps)
                        self.assertEqual(steps_for(rows, near=number(near + near * TINY)), steps)
                        self.assertEqual(steps_for(rows, near=number(near - near * TINY)), steps + 1)

    def test_the_gains_do_not_count(self):
        self.assertEqual(self.asked(steps_for, ([(0, 1), (900, 1)], [(1, 1), (3, 1)]), near=(1, 2)), 4)
