"""Rings and potentials of games that are ours alone: points 38 and 39."""

from fractions import Fraction

from tests import lassos
from tests.support import Case, Dice, draw, number, way_on
from tests.worlds import BEYOND, GAMES, KNOWN, MADE, SINGLES, full_game, lone_game, ours, theirs, wide_gain

from meanhold.means import values
from meanhold.rings import greatest_ring, is_ours_alone, is_ring, potentials_for, ring_mean, shows_no_greater

TINY = Fraction(1, 10 ** 40)


def lone_full_game(seed):
    """A game of 12 places that is ours alone, with 6 branches each but at a few draws."""
    dice = Dice(seed + 88)
    return [way_on(Fraction(*wide_gain(dice)), lassos.targets(place)[0]) if dice.below(5) == 0
            else ours(Fraction(*place[0]), *lassos.targets(place)) for place in full_game(seed + 50)]


# The ring of the places 3 and 4 is greatest, but is reached from themselves and the place 5 alone.
PARTED = [ours(1, 0, 1), way_on(4, 2), ours("-1/2", 1, 0, 1), ours(999, 4), way_on(998, 3), ours(-999, 3, 0)]
# Three rings with the same mean, one of them a single place.
EQUAL_MEANS = [ours(3, 0, 1, 2), way_on(2, 3), ours(-1, 4), ours(4, 1, 0), ours(7, 2)]
LONE_SINGLES = [[ours("-7/3", 0)], [ours(-999, 0, 0, 0)], [way_on("7/2", 0)]]
LONE = [PARTED, EQUAL_MEANS] + LONE_SINGLES + [lone_game(seed) for seed in range(60)]
LONE_FULL = [lone_full_game(seed) for seed in range(8)]
BIG_GAINS = [ours(Fraction(10 ** 5 + x, 1009 + x), *[(x * x + 5 * k) % 14 for k in range(8)]) for x in range(14)]


def reached(game, start):
    found = {start}
    while True:
        more = {y for x in found for y in lassos.targets(game[x])} - found
        if not more:
            return found
        found |= more


def rings_from(game, path):
    """All rings that begin with the path and whose first place is their least one."""
    for y in sorted(set(lassos.targets(game[path[-1]]))):
        if y == path[0]:
            yield path
        elif y > path[0] and y not in path:
            yield from rings_from(game, path + [y])


def all_rings(game):
    return [ring for x in range(len(game)) for ring in rings_from(game, [x])]


def mean_of(game, ring):
    return sum(Fraction(*game[x][0]) for x in ring) / len(ring)


def greatest_means(game):
    """The greatest mean of a ring that is reached, from each place."""
    best = {}
    for ring in all_rings(game):
        best[ring[0]] = max(best.get(ring[0], -10 ** 9), mean_of(game, ring))
    return [max(best[y] for y in reached(game, x) if y in best) for x in range(len(game))]


class IsOursAlone(Case):
    def test_games_that_are(self):
        for game in LONE + LONE_FULL + [BIG_GAINS]:
            self.assertIs(self.asked(is_ours_alone, game), True)

    def test_games_that_are_not(self):
        for game in [[ours(1, 0, 1), draw(2, ("1/2", 0), ("1/2", 1))], [draw("1/2", ("1/3", 0), ("2/3", 0))],
                     [ours(1, 1), draw(2, ("1/2", 0), ("1/2", 0))], [theirs(1, 0)], [ours(0, 1, 0), theirs(1, 0)],
                     [theirs(1, 1), way_on(2, 0)], [way_on(3, 1), way_on(3, 2), theirs(0, 1, 1)]]:
            self.assertIs(self.asked(is_ours_alone, game), False)

    def test_games_of_all_sorts(self):
        for game in GAMES + [BEYOND]:
            told = all(kind == "ours" or (kind, len(branches)) == ("draw", 1) for _, kind, branches in game)
            self.assertIs(self.asked(is_ours_alone, game), told)


class IsRing(Case):
    def test_rings_from_wherever_they_begin(self):
        for game in [LONE[k] for k in range(20)] + KNOWN + MADE[:10] + [full_game(3)[:4] + [way_on(1, 0)] * 8]:
            for ring in all_rings(game)[:40]:
                for k in range(len(ring)):
                    self.assertIs(self.asked(is_ring, game, ring[k:] + ring[:k]), True)

    def test_lists_that_are_none(self):
        game = [ours(1, 1, 2), theirs(2, 2, 2, 1), draw(3, ("1/2", 0), ("1/2", 3)), way_on(0, 3)]
        for places, told in [([], False), ([0], False), ([1], True), ([2], False), ([3], True), ([3, 3], False),
                             ([1, 1], False), ([0, 1], False), ([1, 0], False), ([0, 2], True), ([2, 0], True),
                             ([0, 1, 2], True), ([2, 0, 1], True), ([0, 2, 1], False), ([0, 2, 0, 2], False),
                             ([0, 2, 0], False), ([0, 1, 1, 2], False), ([0, 1, 2, 3], False), ([2, 3], False),
                             ([0, 1, 2, 0, 2], False)]:
            self.assertIs(self.asked(is_ring, game, places), told)

    def test_all_short_lists(self):
        for game in KNOWN + SINGLES + MADE[:12]:
            rings = {tuple(ring[k:] + ring[:k]) for ring in all_rings(game) for k in range(len(ring))}
            some = range(min(len(game), 5))
            for places in [[x] for x in some] + [[x, y] for x in some for y in some] + \
                    [[x, y, z] for x in some for y in some for z in some]:
                self.assertIs(is_ring(game, places), tuple(places) in rings)


class RingMean(Case):
    def test_told_rings(self):
        self.assertEqual(self.asked(ring_mean, PARTED, [3, 4]), (1997, 2))
        self.assertEqual(self.asked(ring_mean, PARTED, [1, 2]), (7, 4))
        self.assertEqual(self.asked(ring_mean, PARTED, [0, 1, 2]), (3, 2))
        self.assertEqual(self.asked(ring_mean, [theirs("-7/3", 0, 0)], [0]), (-7, 3))

    def test_rings_of_games_of_all_sorts(self):
        for game in KNOWN + SINGLES + MADE[:15] + LONE + [BIG_GAINS]:
            rings = all_rings(game) if len(game) < 12 else [[5]] if 5 in lassos.targets(game[5]) else []
            for ring in rings[:30]:
                self.assertEqual(self.exact(self.asked(ring_mean, game, ring)), mean_of(game, ring))


class GreatestRing(Case):
    def look_at(self, game, means):
        for x, best in enumerate(means):
            ring = self.asked(greatest_ring, game, x)
            self.assertIs(type(ring), list)
            self.assertTrue(ring and len(set(ring)) == len(ring))
            self.assertTrue(all(y in lassos.targets(game[place]) for place, y in zip(ring, ring[1:] + ring[:1])))
            self.assertIn(ring[0], reached(game, x))
            self.assertEqual(mean_of(game, ring), best)
        self.assertEqual(self.all_exact(values(game)), means)

    def test_told_games(self):
        self.look_at(PARTED, [Fraction(7, 4)] * 3 + [Fraction(1997, 2)] * 3)
        self.assertEqual(sorted(greatest_ring(PARTED, 5)), [3, 4])
        self.assertEqual(sorted(greatest_ring(PARTED, 0)), [1, 2])
        self.look_at(EQUAL_MEANS, [Fraction(3)] * 5)
        self.assertEqual(greatest_ring(LONE_SINGLES[0], 0), [0])

    def test_all_rings_are_tried(self):
        for game in LONE:
            self.look_at(game, greatest_means(game))

    def test_full_games(self):
        for game in LONE_FULL[:5]:
            self.look_at(game, greatest_means(game))


class Potentials(Case):
    def broken(self, game, x, mean, potentials):
        """The pairs of a place that is reached and a target of it at which the potentials show nothing."""
        p = [Fraction(*found) for found in potentials]
        return [(y, z) for y in sorted(reached(game, x)) for z in lassos.targets(game[y])
                if Fraction(*game[y][0]) - mean + p[z] > p[y]]

    def shows(self, game, x, mean, potentials):
        """Whether they show it, beside the test's own look."""
        found = self.asked(shows_no_greater, game, x, number(mean), potentials)
        self.assertIs(found, not self.broken(game, x, mean, potentials))
        return found

    def test_they_show_it_for_the_greatest_mean_and_none_for_less(self):
        for game in LONE + LONE_FULL + [BIG_GAINS]:
            means = self.all_exact(values(game))
            for x, mean in enumerate(means):
                potentials = self.asked(potentials_for, game, x)
                self.assertEqual(len(self.all_exact(potentials)), len(game))
                self.assertTrue(self.shows(game, x, mean, potentials))
                self.assertTrue(self.shows(game, x, mean + TINY, potentials))
                self.assertFalse(self.shows(game, x, mean - TINY, potentials))

    def test_what_they_show_is_so(self):
        shown = 0
        for seed, game in enumerate(LONE):
            dice = Dice(seed)
            potentials = [number(Fraction(dice.below(200) - 100, 3) * 10 ** (12 * dice.below(2))) for _ in game]
            for x, mean in enumerate(greatest_means(game)):
                for more in (-9, 0, Fraction(1, 2), 30, 10 ** 15):
                    if self.shows(game, x, mean + more, potentials):
                        shown += 1
                        self.assertGreaterEqual(more, 0)
        self.assertGreater(shown, 50)

    def test_one_inequality_is_broken(self):
        game = [ours(2, 0, 1), ours(5, 2, 1), way_on(-1, 0), ours(4, 3, 1), way_on(999, 4)]
        just = [(0, 1), (3, 1), (-6, 1), (3, 1), (0, 1)]
        self.assertTrue(self.shows(game, 0, Fraction(5), just))
        for x, by, told in [(0, -TINY, [(0, 1)]), (0, TINY, [(2, 0)]), (1, TINY, [(0, 1)]), (1, -TINY, []),
                            (1, -9, []), (1, -9 - TINY, [(1, 2)]), (2, -TINY, [(2, 0)]), (2, TINY, []),
                            (2, 9, []), (2, 9 + TINY, [(1, 2)]), (3, -9, []), (4, 99, [])]:
            moved = [number(Fraction(*found) + (by if y == x else 0)) for y, found in enumerate(just)]
            self.assertEqual(self.broken(game, 0, Fraction(5), moved), told)
            self.assertIs(self.shows(game, 0, Fraction(5), moved), not told)

    def test_just_met_and_broken_by_a_little(self):
        for game in LONE:
            for x, mean in enumerate(greatest_means(game)):
                potentials = potentials_for(game, x)
                for y in range(len(game)):
                    for by in (TINY, -TINY, 1, -1):
                        other = list(potentials)
                        other[y] = number(Fraction(*other[y]) + by)
                        self.shows(game, x, mean, other)

    def test_places_that_are_not_reached_do_not_count(self):
        just = [(0, 1), (1, 1), (-1, 1), (10 ** 50, 1), (-10 ** 50, 1), (0, 1)]
        game = [ours(1, 0, 1), way_on(4, 2), ours(0, 1, 0, 1), ours(999, 4), way_on(998, 3), ours(-999, 3, 0)]
        for x in range(3):
            self.assertTrue(self.shows(game, x, Fraction(2), just))
        for x in range(3, 6):
            self.assertFalse(self.shows(game, x, Fraction(2), just))
        self.assertFalse(self.shows(game, 0, Fraction(2), [(0, 1), (2, 1), (-1, 1)] + just[3:]))

    def test_all_potentials_moved_alike(self):
        for game in LONE[:20] + LONE_FULL[:2]:
            mean = Fraction(*values(game)[0])
            moved = [number(Fraction(*found) + 10 ** 60) for found in potentials_for(game, 0)]
            self.assertTrue(self.shows(game, 0, mean, moved))
            self.assertFalse(self.shows(game, 0, mean - TINY, moved))
