"""Ways and plays: points 6 to 10."""

from fractions import Fraction

from tests.support import Case, NAMED, draw, made_game, made_strategy, made_way, number, targets

from meanhold.errors import NoBranch, NoCircle
from meanhold.plays import chance_of, follows, gain_per_step, places_on, play_of, sum_of, unrolled

GAME = [
    ((1, 2), "ours", [1, 2, 1]),
    draw(3, ("1/3", 0), ("1/2", 3), ("1/6", 1)),
    ((-5, 3), "theirs", [0, 3]),
    draw("7/4", (1, 2)),
]
RING = [((1, 1), "ours", [1, 0]), ((-1, 2), "theirs", [2, 0]), ((3, 1), "ours", [1])]
MADE = [made_game(seed) for seed in range(40)]


def walked(game, start, way):
    """The places of a way, told by the test itself."""
    places = [start]
    for taken in way:
        places.append(targets(game[places[-1]])[taken])
    return places


def gained(game, start, way):
    return sum((Fraction(*game[x][0]) for x in walked(game, start, way)[:-1]), Fraction(0))


class Ways(Case):
    def test_the_empty_way(self):
        for game in [GAME, RING] + NAMED:
            for start in range(len(game)):
                self.assertEqual(self.asked(places_on, game, start, []), [start])
                self.assertEqual(self.asked(sum_of, game, start, []), (0, 1))
                self.assertEqual(self.asked(chance_of, game, start, []), (1, 1))
                self.assertEqual(self.asked(unrolled, game, start, []), ([], []))
                for side in ("ours", "theirs"):
                    strategy = made_strategy(1, game, side)
                    self.assertIs(self.asked(follows, game, start, [], side=side, strategy=strategy), True)

    def test_a_way(self):
        self.assertEqual(self.asked(places_on, GAME, 0, [2, 1, 0, 1, 0]), [0, 1, 3, 2, 3, 2])
        self.assertEqual(self.asked(sum_of, GAME, 0, [2, 1, 0, 1, 0]), (16, 3))
        self.assertEqual(self.asked(chance_of, GAME, 0, [2, 1, 0, 1, 0]), (1, 2))
        self.assertEqual(self.asked(chance_of, GAME, 1, [2, 0, 0, 1]), (1, 36))

    def test_the_last_place_books_nothing(self):
        self.assertEqual(self.asked(sum_of, GAME, 0, [0]), (1, 2))
        self.assertEqual(self.asked(sum_of, GAME, 2, [1]), (-5, 3))

    def test_only_draws_have_chances(self):
        self.assertEqual(self.asked(chance_of, GAME, 0, [1, 0, 1, 1]), (1, 1))
        self.assertEqual(self.asked(chance_of, RING, 0, [0, 0, 0, 1]), (1, 1))
        self.assertEqual(self.asked(chance_of, GAME, 1, [0]), (1, 3))

    def test_sums_and_chances_in_lowest_terms(self):
        game = [draw("1/6", ("1/2", 1), ("1/2", 0)), draw("1/3", ("2/3", 0), ("1/3", 1)), draw("-1/2", (1, 0))]
        self.assertEqual(self.asked(sum_of, game, 0, [0, 0]), (1, 2))
        self.assertEqual(self.asked(chance_of, game, 0, [0, 0]), (1, 3))
        self.assertEqual(self.asked(sum_of, game, 2, [0, 0, 0]), (0, 1))
        self.assertEqual(self.asked(sum_of, game, 2, [0, 1]), (-1, 3))

    def test_made_ways(self):
        for seed, game in enumerate(MADE):
            for start in range(len(game)):
                way = made_way(seed + start, game, start, 3 * (seed % 9))
                places = self.asked(places_on, game, start, way)
                self.assertEqual(places, walked(game, start, way))
                self.assertEqual(self.exact(self.asked(sum_of, game, start, way)), gained(game, start, way))
                chance = Fraction(1)
                for x, taken in zip(places, way):
                    if game[x][1] == "draw":
                        chance *= Fraction(*game[x][2][taken][0])
                self.assertEqual(self.exact(self.asked(chance_of, game, start, way)), chance)

    def test_a_long_way(self):
        game = [draw("1/7", ("1/3", 0), ("2/3", 0))]
        self.assertEqual(sum_of(game, 0, [0, 1] * 700), (200, 1))
        self.assertEqual(chance_of(game, 0, [0, 1] * 700), (2 ** 700, 3 ** 1400))

    def test_no_branch(self):
        for function in (places_on, sum_of, chance_of, unrolled):
            for start, way, at in [(0, [3], 0), (0, [-1], 0), (3, [1], 0), (0, [0, 3], 1), (0, [2, 1, 0, 2, 9], 3),
                                   (0, [0, -3, 0], 1), (1, [10 ** 20], 0), (1, [2, 2, 2, -10 ** 20], 3),
                                   (2, [0, 1, -2, 7], 2), (3, [0, 1, 1], 2)]:
                self.assertEqual(self.refused(NoBranch, function, GAME, start, way).at, at)

    def test_no_branch_at_every_position(self):
        for seed, game in enumerate(MADE[:15]):
            way = made_way(seed, game, 0, 8)
            places = walked(game, 0, way)
            for at in range(8):
                for wrong in (-1, len(game[places[at]][2]), 77):
                    spoilt = way[:at] + [wrong] + way[at + 1:]
                    for function in (places_on, sum_of, chance_of, unrolled):
                        self.assertEqual(self.refused(NoBranch, function, game, 0, spoilt).at, at)
                    both = spoilt[:at + 1] + [-5, 99]
                    self.assertEqual(self.refused(NoBranch, places_on, game, 0, both).at, at)


class GainPerStep(Case):
    def test_a_circle_twice_round_or_begun_elsewhere(self):
        once = self.asked(gain_per_step, RING, 0, [0], [0, 0])
        self.assertEqual(once, (5, 4))
        self.assertEqual(self.asked(gain_per_step, RING, 0, [0], [0, 0] * 2), once)
        self.assertEqual(self.asked(gain_per_step, RING, 0, [0, 0], [0, 0]), once)
        self.assertEqual(self.asked(gain_per_step, RING, 2, [], [0, 0]), once)
        self.assertEqual(self.asked(gain_per_step, RING, 0, [1, 1, 0, 1, 0], [0, 0] * 3), once)

    def test_the_beginning_has_no_influence(self):
        for beginning in ([], [1], [1, 1, 1], [0, 1], [0, 0, 0, 1]):
            self.assertEqual(self.asked(gain_per_step, RING, 0, beginning, [1]), (1, 1))
            self.assertEqual(self.asked(gain_per_step, RING, 0, beginning, [0, 1]), (1, 4))

    def test_circles_through_draws(self):
        self.assertEqual(self.asked(gain_per_step, GAME, 2, [1], [0, 1]), (1, 24))
        self.assertEqual(self.asked(gain_per_step, GAME, 1, [], [2]), (3, 1))

    def test_made_plays(self):
        for seed, game in enumerate(MADE):
            way = made_way(seed, game, 0, 30)
            places = walked(game, 0, way)
            for first in range(4):
                last = next((k for k in range(first + 1, 31) if places[k] == places[first]), None)
                if last is not None:
                    circle = way[first:last]
                    mean = gained(game, places[first], circle) / (last - first)
                    found = self.asked(gain_per_step, game, 0, way[:first], circle)
                    self.assertEqual(self.exact(found), mean)

    def test_no_circle(self):
        self.refused(NoCircle, gain_per_step, RING, 0, [], [])
        self.refused(NoCircle, gain_per_step, RING, 0, [0, 0], [])
        self.refused(NoCircle, gain_per_step, RING, 0, [], [0])
        self.refused(NoCircle, gain_per_step, RING, 0, [0], [0])
        self.refused(NoCircle, gain_per_step, RING, 0, [0], [0, 0, 1])
        # It leads back to the start of the play, but not to where it begins.
        self.refused(NoCircle, gain_per_step, RING, 0, [0], [1])

    def test_no_branch_comes_before_no_circle(self):
        for beginning, circle, at in [([2], [], 0), ([0, 2], [], 1), ([0, 0, 0, -1], [], 3), ([2], [1], 0),
                                      ([0], [2], 1), ([], [2], 0), ([0], [0, 1], 2), ([0], [0, 0, 5], 3),
                                      ([0, -1], [7], 1), ([0, 0], [0, 1, 2, 0], 4), ([0], [0, 0, 0, 1], 4)]:
            self.assertEqual(self.refused(NoBranch, gain_per_step, RING, 0, beginning, circle).at, at)


class Follows(Case):
    def test_the_last_place_does_not_count(self):
        for side, strategy in [("ours", [1, None, 0]), ("theirs", [None, 1, None])]:
            self.assertIs(self.asked(follows, RING, 0, [1, 1], side=side, strategy=strategy), True)
        self.assertIs(self.asked(follows, RING, 2, [0], side="theirs", strategy=[None, 1, None]), True)
        self.assertIs(self.asked(follows, RING, 1, [0], side="theirs", strategy=[None, 1, None]), False)
        self.assertIs(self.asked(follows, RING, 0, [0], side="ours", strategy=[0, None, 0]), True)

    def test_every_place_of_the_side_counts(self):
        ours = [0, None, 0]
        self.assertIs(self.asked(follows, RING, 0, [0, 1, 0, 0, 0], side="ours", strategy=ours), True)
        self.assertIs(self.asked(follows, RING, 0, [0, 1, 1], side="ours", strategy=ours), False)
        self.assertIs(self.asked(follows, RING, 0, [1, 0], side="ours", strategy=ours), False)
        theirs = [None, 0, None]
        self.assertIs(self.asked(follows, RING, 0, [1, 0, 0, 0], side="theirs", strategy=theirs), True)
        self.assertIs(self.asked(follows, RING, 0, [1, 0, 0, 0, 1], side="theirs", strategy=theirs), False)

    def test_draws_and_the_other_side_do_not_count(self):
        game = [draw(1, ("1/2", 1), ("1/2", 2)), ((0, 1), "ours", [0, 2]), ((0, 1), "theirs", [0, 1])]
        for way in ([0, 0, 1, 1, 0], [1, 1, 0, 0, 0]):
            self.assertIs(self.asked(follows, game, 0, way, side="ours", strategy=[None, 0, None]), True)
        self.assertIs(self.asked(follows, game, 0, [1, 1, 0], side="theirs", strategy=[None, None, 1]), True)

    def test_made_ways(self):
        seen = {True: 0, False: 0}
        for seed, game in enumerate(MADE):
            for side in ("ours", "theirs"):
                for steps in range(6):
                    strategy = made_strategy(seed, game, side)
                    way = made_way(seed, game, 0, steps)
                    expected = True
                    for x, taken in zip(walked(game, 0, way), way):
                        if game[x][1] == side and strategy[x] != taken:
                            expected = False
                    found = self.asked(follows, game, 0, way, side=side, strategy=strategy)
                    self.assertIs(found, expected)
                    seen[found] += 1
        self.assertGreater(min(seen.values()), 20)

    def test_no_branch_also_where_the_way_leaves_the_strategy_earlier(self):
        for side, strategy in [("ours", [0, None, 0]), ("theirs", [None, 0, None])]:
            for way, at in [([2], 0), ([-1], 0), ([1, 0, 1, 1, 2], 4), ([0, 1, 1, -1], 3), ([1, 0, 2, 1], 2)]:
                raised = self.refused(NoBranch, follows, RING, 0, way, side=side, strategy=strategy)
                self.assertEqual(raised.at, at)


class Unrolled(Case):
    def test_the_example(self):
        self.assertEqual(self.asked(unrolled, RING, 0, [1, 0, 0, 0, 1, 1]),
                         ([], [(0, [1]), (1, [0, 0]), (0, [0, 1]), (0, [1])]))

    def test_back_at_the_start_several_times(self):
        self.assertEqual(self.asked(unrolled, RING, 0, [1, 1, 0, 1, 0, 1]),
                         ([], [(0, [1]), (0, [1]), (0, [0, 1]), (0, [0, 1])]))
        self.assertEqual(self.asked(unrolled, RING, 2, [0, 0, 0, 0]), ([], [(2, [0, 0]), (2, [0, 0])]))

    def test_a_path_that_is_not_empty(self):
        self.assertEqual(self.asked(unrolled, RING, 0, [0, 0]), ([0, 0], []))
        self.assertEqual(self.asked(unrolled, RING, 0, [1, 0, 0]), ([0, 0], [(0, [1])]))
        self.assertEqual(self.asked(unrolled, RING, 0, [0, 0, 0]), ([0], [(1, [0, 0])]))
        self.assertEqual(self.asked(unrolled, RING, 1, [0, 0, 1, 1, 0, 0]),
                         ([0], [(1, [0, 0]), (0, [1]), (1, [1, 0])]))

    def test_a_place_that_was_taken_off_is_free_again(self):
        game = [((1, 1), "ours", [1, 2]), ((2, 1), "ours", [2, 0]), ((3, 1), "ours", [0, 1, 2])]
        self.assertEqual(self.asked(unrolled, game, 0, [0, 0, 1, 1, 1]), ([1], [(1, [0, 1]), (0, [0, 1])]))
        self.assertEqual(self.asked(unrolled, game, 0, [0, 1, 0, 0]), ([0, 0], [(0, [0, 1])]))

    def test_made_ways(self):
        longest = 0
        for seed, game in enumerate(MADE):
            for start in range(len(game)):
                way = made_way(seed + 7 * start, game, start, 25)
                path, circles = self.asked(unrolled, game, start, way)
                self.assertEqual((path, circles), unrolled_anew(game, start, way))
                self.look_at_parts(game, start, way, path, circles)
                longest = max(longest, len(path))
        self.assertGreater(longest, 3)

    def look_at_parts(self, game, start, way, path, circles):
        places = walked(game, start, path)
        self.assertEqual(len(set(places)), len(places))
        self.assertEqual(places[-1], walked(game, start, way)[-1])
        gains, steps = gained(game, start, path), len(path)
        for place, circle in circles:
            round_places = walked(game, place, circle)
            self.assertTrue(circle)
            self.assertEqual(round_places[-1], place)
            self.assertEqual(len(set(round_places[:-1])), len(circle))
            gains += gained(game, place, circle)
            steps += len(circle)
        self.assertEqual(steps, len(way))
        self.assertEqual(gains, self.exact(sum_of(game, start, way)))


def unrolled_anew(game, start, way):
    """The same as `unrolled`, by looking over the whole path behind each step."""
    path, circles = [], []
    for taken in way:
        path.append(taken)
        places = walked(game, start, path)
        if places[-1] in places[:-1]:
            at = places.index(places[-1])
            circles.append((places[-1], path[at:]))
            path = path[:at]
    return path, circles


class PlayOf(Case):
    def look_at_play(self, game, start, ours, theirs):
        beginning, circle = self.asked(play_of, game, start, ours=ours, theirs=theirs)
        places = walked(game, start, beginning + circle)
        self.assertTrue(circle)
        self.assertEqual(places[-1], places[len(beginning)])
        self.assertEqual(len(set(places[:-1])), len(places) - 1)
        for side, strategy in (("ours", ours), ("theirs", theirs)):
            self.assertIs(follows(game, start, beginning + circle, side=side, strategy=strategy), True)
        return len(beginning), len(circle)

    def test_from_each_start(self):
        kinds = set()
        for seed in range(60):
            game = made_game(seed, draws=False)
            ours, theirs = made_strategy(seed, game, "ours"), made_strategy(seed, game, "theirs")
            for start in range(len(game)):
                beginning, circle = self.look_at_play(game, start, ours, theirs)
                kinds.add((beginning > 0, circle > 1))
        self.assertEqual(len(kinds), 4)

    def test_told_plays(self):
        ours, theirs = [1, None, 0], [None, 1, None]
        self.assertEqual(self.asked(play_of, RING, 0, ours=ours, theirs=theirs), ([], [1]))
        self.assertEqual(self.asked(play_of, RING, 1, ours=ours, theirs=theirs), ([1], [1]))
        self.assertEqual(self.asked(play_of, RING, 2, ours=ours, theirs=theirs), ([0, 1], [1]))
        ours, theirs = [0, None, 0], [None, 0, None]
        self.assertEqual(self.asked(play_of, RING, 0, ours=ours, theirs=theirs), ([0], [0, 0]))
        self.assertEqual(self.asked(play_of, RING, 1, ours=ours, theirs=theirs), ([], [0, 0]))
        self.assertEqual(self.asked(play_of, RING, 2, ours=ours, theirs=theirs), ([], [0, 0]))
        theirs = [None, 1, None]
        self.assertEqual(self.asked(play_of, RING, 2, ours=ours, theirs=theirs), ([0], [1, 0]))

    def test_the_gain_per_step_of_a_play(self):
        game = [(number(x), ("ours", "theirs")[x % 2], [(x + 1) % 12]) for x in range(12)]
        nothing = [None if place[1] == "theirs" else 0 for place in game]
        others = [None if place[1] == "ours" else 0 for place in game]
        for start in range(12):
            beginning, circle = self.asked(play_of, game, start, ours=nothing, theirs=others)
            self.assertEqual((beginning, circle), ([], [0] * 12))
            self.assertEqual(gain_per_step(game, start, beginning, circle), (11, 2))
