"""Worths of n steps and best moves: points 33, 34 and 37."""

from fractions import Fraction

from tests import judging
from tests.support import Case, Dice, draw, number, way_on
from tests.worlds import BEYOND, EQUALS, FULL, GAMES, KNOWN, MADE, NO_DRAWS, SINGLES, SMALL, SOME_CHAINS, ours, theirs

from meanhold.rounds import best_moves, worths, worths_from

OF_ROUNDS = [ours(3, 0, 1), theirs(0, 0, 2), draw(5, ("1/2", 0), ("1/2", 2))]
LONG = Fraction(10 ** 60 + 1, 7 ** 40)


def made_start(seed, game):
    """Starting worths of any size and sign."""
    dice = Dice(seed + 31)
    return [[dice.gain(), number(LONG * (dice.below(9) - 4)), number(dice.below(10 ** 9) - 10 ** 8), (0, 1)]
            [dice.below(4)] for _ in game]


def worths_back(game, start, steps):
    """The worths of so many steps, told from the last step back."""
    found = [Fraction(*worth) for worth in start]
    for _ in range(steps):
        found = [Fraction(*place[0]) + judging.reached(place, found) for place in game]
    return found


def worth_of_plays(game, start, x, steps, booked=Fraction(0)):
    """The worth of a place, by following all plays of so many steps to their ends."""
    if steps == 0:
        return booked + Fraction(*start[x])
    gain, kind, branches = game[x]
    booked += Fraction(*gain)
    if kind == "draw":
        return sum(Fraction(*chance) * worth_of_plays(game, start, y, steps - 1, booked) for chance, y in branches)
    return (max if kind == "ours" else min)(worth_of_plays(game, start, y, steps - 1, booked) for y in branches)


class Worths(Case):
    def test_told_games(self):
        self.assertEqual(self.asked(worths, OF_ROUNDS, 0), [(0, 1)] * 3)
        self.assertEqual(self.asked(worths, OF_ROUNDS, 1), [(3, 1), (0, 1), (5, 1)])
        self.assertEqual(self.asked(worths, OF_ROUNDS, 2), [(6, 1), (3, 1), (9, 1)])
        self.assertEqual(self.asked(worths, OF_ROUNDS, 3), [(9, 1), (6, 1), (25, 2)])
        self.assertEqual(self.asked(worths, [theirs("-7/3", 0, 0)], 30), [(-70, 1)])
        self.assertEqual(self.asked(worths, [ours(0, 1, 1), draw(999, (1, 0))], 29), [(13986, 1), (14985, 1)])

    def test_from_the_last_step_back(self):
        for game in GAMES + [BEYOND]:
            for steps in (0, 1, 2, 30):
                found = self.all_exact(self.asked(worths, game, steps))
                self.assertEqual(found, worths_back(game, [(0, 1)] * len(game), steps))

    def test_by_following_all_plays(self):
        for game in SMALL + KNOWN:
            for steps in range(5):
                nothing = [(0, 1)] * len(game)
                self.assertEqual(self.all_exact(worths(game, steps)),
                                 [worth_of_plays(game, nothing, x, steps) for x in range(len(game))])

    def test_beyond_the_limits(self):
        for game in KNOWN + FULL[:2] + [BEYOND]:
            self.assertEqual(self.all_exact(self.asked(worths, game, 41)), worths_back(game, [(0, 1)] * len(game), 41))


class WorthsFrom(Case):
    def test_told_worths(self):
        start = [(-9, 1), (1, 3), (4, 1)]
        self.assertEqual(self.asked(worths_from, OF_ROUNDS, start, 0), start)
        self.assertEqual(self.asked(worths_from, OF_ROUNDS, start, 1), [(10, 3), (-9, 1), (5, 2)])
        self.assertEqual(self.asked(worths_from, OF_ROUNDS, start, 2), [(19, 3), (5, 2), (95, 12)])

    def test_starting_worths_of_any_size(self):
        for seed, game in enumerate(GAMES + [BEYOND]):
            start = made_start(seed, game)
            for steps in (0, 1, 2, 7, 30):
                found = self.all_exact(self.asked(worths_from, game, start, steps))
                self.assertEqual(found, worths_back(game, start, steps))

    def test_no_steps(self):
        for seed, game in enumerate(SMALL + FULL):
            start = made_start(seed, game)
            self.assertEqual(self.asked(worths_from, game, start, 0), start)

    def test_by_following_all_plays(self):
        for seed, game in enumerate(SMALL + KNOWN):
            start = made_start(seed, game)
            for steps in range(4):
                self.assertEqual(self.all_exact(worths_from(game, start, steps)),
                                 [worth_of_plays(game, start, x, steps) for x in range(len(game))])

    def test_steps_one_after_the_other(self):
        for seed, game in enumerate(KNOWN + SINGLES + SOME_CHAINS + MADE + NO_DRAWS + FULL):
            start = made_start(seed, game)
            for first, second in [(0, 3), (3, 0), (1, 1), (2, 5), (13, 17)]:
                self.assertEqual(worths_from(game, worths_from(game, start, first), second),
                                 worths_from(game, start, first + second))

    def test_worths_of_steps_are_starting_worths_of_more(self):
        for game in KNOWN + FULL:
            self.assertEqual(worths_from(game, worths(game, 11), 19), worths(game, 30))


class OtherStarts(Case):
    """Point 37."""

    def rows(self, seed, game):
        return [Fraction(*worth) for worth in made_start(seed, game)]

    def behind(self, game, row, steps):
        return self.all_exact(worths_from(game, [number(worth) for worth in row], steps))

    def test_greater_starting_worths(self):
        changed = 0
        for seed, game in enumerate(KNOWN + SMALL + MADE + FULL):
            dice = Dice(seed)
            low = self.rows(seed, game)
            high = [worth + dice.below(2) * Fraction(dice.below(99), 7) for worth in low]
            for steps in (1, 2, 30):
                before, after = self.behind(game, low, steps), self.behind(game, high, steps)
                self.assertTrue(all(a <= b for a, b in zip(before, after)))
                changed += before != after
        self.assertGreater(changed, 100)

    def test_the_same_number_added_everywhere(self):
        for seed, game in enumerate(KNOWN + SMALL + MADE[:20] + FULL):
            row = self.rows(seed, game)
            for added in (LONG, Fraction(-7, 3)):
                for steps in (0, 1, 30):
                    self.assertEqual(self.behind(game, [worth + added for worth in row], steps),
                                     [worth + added for worth in self.behind(game, row, steps)])

    def test_the_greatest_difference_never_grows(self):
        for seed, game in enumerate(KNOWN + SMALL + MADE[:20] + FULL):
            first, second = self.rows(seed, game), self.rows(seed + 999, game)
            apart = max(abs(a - b) for a, b in zip(first, second))
            for steps in (1, 2, 3, 30):
                nearer = max(abs(a - b) for a, b in zip(self.behind(game, first, steps),
                                                        self.behind(game, second, steps)))
                self.assertLessEqual(nearer, apart)


class BestMoves(Case):
    def told_moves(self, game, x, steps):
        """The best moves, by the test's own sums."""
        _, kind, branches = game[x]
        if kind == "draw":
            return []
        before = worths_back(game, [(0, 1)] * len(game), steps - 1)
        best = (max if kind == "ours" else min)(before[y] for y in branches)
        return [k for k, y in enumerate(branches) if before[y] == best]

    def test_told_games(self):
        self.assertEqual(self.asked(best_moves, OF_ROUNDS, 0, 1), [0, 1])
        self.assertEqual(self.asked(best_moves, OF_ROUNDS, 0, 2), [0])
        self.assertEqual(self.asked(best_moves, OF_ROUNDS, 1, 2), [0])
        self.assertEqual(self.asked(best_moves, OF_ROUNDS, 2, 2), [])
        # What is best changes with the steps that are left.
        game = [ours(0, 2, 1, 2, 3), way_on(5, 3), way_on(1, 4), way_on(0, 3), way_on(9, 3)]
        for steps, moves in [(1, [0, 1, 2, 3]), (2, [1]), (3, [0, 2]), (30, [0, 2])]:
            self.assertEqual(self.asked(best_moves, game, 0, steps), moves)
        game = [(gain if x == 0 else (-gain[0], 1), "theirs" if x == 0 else kind, branches)
                for x, (gain, kind, branches) in enumerate(game)]
        for steps, moves in [(1, [0, 1, 2, 3]), (2, [1]), (3, [0, 2]), (30, [0, 2])]:
            self.assertEqual(self.asked(best_moves, game, 0, steps), moves)

    def test_all_branches_are_as_good(self):
        for steps in (1, 2, 30):
            self.assertEqual(self.asked(best_moves, [ours(-999, 0, 0, 0)], 0, steps), [0, 1, 2])
            self.assertEqual(self.asked(best_moves, [theirs("1/2", 0, 0)], 0, steps), [0, 1])
            self.assertEqual(self.asked(best_moves, [theirs(2, 1, 2, 1), way_on(3, 1), way_on(3, 2)], 0, steps),
                             [0, 1, 2])

    def test_one_step_left(self):
        for game in GAMES + [BEYOND]:
            for x, (_, kind, branches) in enumerate(game):
                moves = [] if kind == "draw" else list(range(len(branches)))
                self.assertEqual(self.asked(best_moves, game, x, 1), moves)

    def test_games_of_all_sorts(self):
        several = 0
        for game in KNOWN + SINGLES + SOME_CHAINS + MADE[:25] + NO_DRAWS[:10] + FULL[:6] + [EQUALS, BEYOND]:
            for x in range(len(game)):
                for steps in (2, 3, 4, 30):
                    moves = self.asked(best_moves, game, x, steps)
                    self.assertEqual(moves, self.told_moves(game, x, steps))
                    several += 1 < len(moves) < len(game[x][2])
        self.assertGreater(several, 50)
