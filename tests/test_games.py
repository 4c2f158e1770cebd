"""Games: points 1, 2, 3, 5."""

from itertools import combinations

from tests.support import Case, NAMED, draw, made_game, made_strategy, targets

from meanhold.errors import BadChance, BadKind, BadNumber, BadSize, BadTarget
from meanhold.games import check_game, with_strategy

ONE = (1, 1)
STAY = ((1, 1), "draw", [(ONE, 0)])
NO_SHORT_NUMBERS = [
    (), (1,), (1, 2, 3), [1, 2], [0, 1], 0, 1, -7, None, "", "1/2", "12", b"12", 0.5, {}, {1: 1}, {1, 2},
    True, False, (2, 4), (0, 2), (0, 999), (3, 3), (1, 0), (0, 0), (1, -2), (-1, -2), (0, -1),
    (1000, 1), (-1000, 1), (1, 1000), (1001, 1000), (10 ** 30, 1), (1, 10 ** 30 + 1),
    (True, 1), (False, 1), (1, True), (1, False), (True, True), (True, 2),
    (None, 1), (1, None), ("1", 1), (1, "1"), "ab", (1.0, 1), (1, 2.0), ((1, 1), 1), (1, (1, 1)), ([1], 1),
]
NO_PLACES = [-1, 1, 2, 12, 999, -1000, True, False, "0", "", None, (0,), (), [0], (0, 1), 0.0, {}, b"0"]


class CheckGame(Case):
    def accepted(self, game):
        self.assertIsNone(self.asked(check_game, game))

    def test_games_of_all_sizes(self):
        for many in range(1, 13):
            self.accepted([STAY] * many)
            self.accepted([(ONE, "ours", [many - 1])] * many)
            self.accepted([(ONE, "theirs", [0, many - 1])] * many)

    def test_lists_of_all_sizes(self):
        for many in range(1, 7):
            self.accepted([(ONE, "ours", [0] * many)])
            self.accepted([(ONE, "theirs", [0] * many)])
            self.accepted([(ONE, "draw", [((1, many), 0)] * many)])

    def test_gains_at_the_edges(self):
        for gain in [(0, 1), (-999, 1), (999, 1), (1, 999), (-1, 999), (998, 999), (-999, 998), (7, 2)]:
            for kind, branches in [("draw", [(ONE, 0)]), ("ours", [0]), ("theirs", [0])]:
                self.accepted([(gain, kind, branches)])

    def test_chances_at_the_edges(self):
        self.accepted([draw(0, ("1/999", 0), ("998/999", 0))])
        self.accepted([draw(0, ("1/2", 0), ("1/3", 0), ("1/6", 0))])
        self.accepted([draw(0, ("1/4", 1), ("1/6", 0), ("7/12", 1)), STAY])

    def test_made_games(self):
        for game in NAMED + [made_game(seed) for seed in range(30)]:
            self.accepted(game)

    def test_too_few_and_too_many_places(self):
        for many in (0, 13, 14, 40):
            self.refused(BadSize, check_game, [STAY] * many)

    def test_too_few_and_too_many_branches(self):
        for many in (0, 7, 8, 30):
            self.refused(BadSize, check_game, [(ONE, "ours", [0] * many)])
            self.refused(BadSize, check_game, [(ONE, "theirs", [0] * many)])
            self.refused(BadSize, check_game, [(ONE, "draw", [((1, max(many, 1)), 0)] * many)])

    def test_gains_that_are_no_short_numbers(self):
        for gain in NO_SHORT_NUMBERS:
            for kind, branches in [("draw", [(ONE, 0)]), ("ours", [0]), ("theirs", [0])]:
                self.refused(BadNumber, check_game, [(gain, kind, branches)])
                self.refused(BadNumber, check_game, [STAY, STAY, (gain, kind, branches)])

    def test_chances_that_are_no_short_numbers(self):
        for chance in NO_SHORT_NUMBERS:
            self.refused(BadNumber, check_game, [(ONE, "draw", [(chance, 0)])])
            self.refused(BadNumber, check_game, [(ONE, "draw", [((1, 2), 0), (chance, 0)])])

    def test_other_words(self):
        for word in ["", "Draw", "DRAW", "draws", "draw ", "our", "their", "Ours", "theirs ", "mine", "o", "0"]:
            self.refused(BadKind, check_game, [(ONE, word, [0])])
            self.refused(BadKind, check_game, [STAY, (ONE, word, [(ONE, 0)])])

    def test_chances_not_greater_than_nothing(self):
        for chance in [(0, 1), (-1, 2), (-1, 1), (-999, 1), (-1, 999)]:
            self.refused(BadChance, check_game, [(ONE, "draw", [(chance, 0)])])
            rest = (1, 1) if chance == (0, 1) else (chance[1] - chance[0], chance[1])
            if rest[0] < 1000:
                self.refused(BadChance, check_game, [(ONE, "draw", [(rest, 0), (chance, 0)])])

    def test_sums_of_chances(self):
        for chances in [[(1, 2)], [(998, 999)], [(3, 2)], [(2, 1)], [ONE, (1, 999)], [ONE, ONE], [(1, 2), (1, 3)],
                        [(1, 2), (1, 3), (1, 5)], [(1, 3)] * 4, [(1, 6)] * 5, [(1, 5)] * 6]:
            self.refused(BadChance, check_game, [(ONE, "draw", [(chance, 0) for chance in chances])])

    def test_targets_that_are_no_places(self):
        for target in NO_PLACES:
            for kind in ("ours", "theirs"):
                self.refused(BadTarget, check_game, [(ONE, kind, [target])])
                self.refused(BadTarget, check_game, [(ONE, kind, [0, target])])
                self.refused(BadTarget, check_game, [(ONE, kind, [0, 0, target, 0])])
            self.refused(BadTarget, check_game, [(ONE, "draw", [(ONE, target)])])
            self.refused(BadTarget, check_game, [(ONE, "draw", [((1, 2), 0), ((1, 2), target)])])

    def test_the_number_of_places_is_no_place(self):
        for many in range(1, 13):
            self.refused(BadTarget, check_game, [STAY] * (many - 1) + [(ONE, "ours", [many - 1, many])])
            self.refused(BadTarget, check_game, [STAY] * (many - 1) + [(ONE, "draw", [(ONE, many)])])


# Places with one fault, in the order in which point 5 names the faults of one place.
FAULTY = [
    (BadNumber, (2, "draw", [(ONE, 0)])),
    (BadKind, (ONE, "chance", [0])),
    (BadSize, (ONE, "theirs", [])),
    (BadNumber, (ONE, "draw", [(1, 0)])),
    (BadChance, (ONE, "draw", [((0, 1), 0)])),
    (BadTarget, (ONE, "draw", [(ONE, -1)])),
    (BadChance, (ONE, "draw", [((1, 2), 0)])),
    (BadTarget, (ONE, "ours", [0, 0, None])),
]


class OrderOfErrors(Case):
    def test_the_number_of_places_comes_first(self):
        for _, place in FAULTY:
            self.refused(BadSize, check_game, [place] + [STAY] * 12)

    def test_place_by_place(self):
        for (error, place), (other, later) in list(combinations(FAULTY, 2)):
            self.refused(error, check_game, [place, later])
            self.refused(other, check_game, [later, place])
            self.refused(error, check_game, [STAY, place, STAY, later])

    def test_within_a_place(self):
        self.refused(BadNumber, check_game, [(None, "none", [])])
        self.refused(BadNumber, check_game, [(True, "ours", [])])
        self.refused(BadNumber, check_game, [((1, 0), "ours", [9])])
        self.refused(BadNumber, check_game, [((1, 0), "draw", [((0, 1), 9)])])
        self.refused(BadKind, check_game, [(ONE, "none", [])])
        self.refused(BadKind, check_game, [(ONE, "none", [0] * 7)])
        self.refused(BadKind, check_game, [(ONE, "none", [9])])
        self.refused(BadSize, check_game, [(ONE, "ours", [9] * 7)])
        self.refused(BadSize, check_game, [(ONE, "draw", [(None, None)] * 7)])

    def test_within_a_branch(self):
        self.refused(BadNumber, check_game, [(ONE, "draw", [((2, 4), None)])])
        self.refused(BadNumber, check_game, [(ONE, "draw", [((0, 2), 9)])])
        self.refused(BadChance, check_game, [(ONE, "draw", [((0, 1), None)])])
        self.refused(BadChance, check_game, [(ONE, "draw", [((-1, 2), 9)])])
        self.refused(BadTarget, check_game, [(ONE, "draw", [((1, 2), 9)])])

    def test_branch_by_branch(self):
        number, chance, target = ((1000, 1), 0), ((0, 1), 0), ((2, 1), 1)
        for first, error in [(number, BadNumber), (chance, BadChance), (target, BadTarget)]:
            for second in (number, chance, target):
                self.refused(error, check_game, [(ONE, "draw", [first, second])])
                self.refused(error, check_game, [(ONE, "draw", [(ONE, 0), first, second])])

    def test_the_sum_comes_after_all_branches(self):
        for second, error in [((5, 0), BadNumber), (((-1, 1), 0), BadChance), (((1, 1), True), BadTarget)]:
            self.refused(error, check_game, [(ONE, "draw", [((3, 1), 0), second])])
        self.refused(BadChance, check_game, [(ONE, "draw", [((1, 2), 0)]), (None, "draw", [])])


class WithStrategy(Case):
    def test_places_of_the_side_are_told_and_others_stay(self):
        game = [((1, 2), "ours", [2, 1]), ((0, 1), "theirs", [0, 1, 2]), draw(3, ("1/3", 0), ("2/3", 2))]
        self.assertEqual(self.asked(with_strategy, game, "ours", [1, None, None]),
                         [((1, 2), "draw", [(ONE, 1)]), ((0, 1), "theirs", [0, 1, 2]),
                          draw(3, ("1/3", 0), ("2/3", 2))])
        self.assertEqual(self.asked(with_strategy, game, "theirs", [None, 0, None]),
                         [((1, 2), "ours", [2, 1]), ((0, 1), "draw", [(ONE, 0)]),
                          draw(3, ("1/3", 0), ("2/3", 2))])

    def test_made_games(self):
        for seed in range(40):
            game = made_game(seed)
            for side in ("ours", "theirs"):
                strategy = made_strategy(seed, game, side)
                found = self.asked(with_strategy, game, side, strategy)
                self.assertIsNone(check_game(found))
                self.assertEqual(len(found), len(game))
                for place, new, told in zip(game, found, strategy):
                    if place[1] == side:
                        self.assertEqual(new, (place[0], "draw", [(ONE, targets(place)[told])]))
                    else:
                        self.assertEqual(repr(new), repr(place))

    def test_both_strategies_in_either_order(self):
        for seed in range(40):
            game = made_game(seed)
            ours, theirs = made_strategy(seed, game, "ours"), made_strategy(seed, game, "theirs")
            one = with_strategy(with_strategy(game, "ours", ours), "theirs", theirs)
            other = with_strategy(with_strategy(game, "theirs", theirs), "ours", ours)
            self.assertEqual(one, other)
            self.assertEqual({place[1] for place in one}, {"draw"})

    def test_a_game_without_places_of_the_side_is_copied(self):
        for game in NAMED:
            self.assertEqual(self.asked(with_strategy, game, "ours", [None] * len(game)), game)

    def test_changing_what_was_returned(self):
        game = [((1, 1), "ours", [0, 1]), ((2, 1), "theirs", [1, 0]), draw(3, (1, 2))]
        found = with_strategy(game, "ours", [0, None, None])
        for _, _, branches in found:
            branches.clear()
        found.clear()
        self.assertEqual(game, [((1, 1), "ours", [0, 1]), ((2, 1), "theirs", [1, 0]), draw(3, (1, 2))])
        self.assertEqual(with_strategy(game, "ours", [0, None, None]),
                         [((1, 1), "draw", [(ONE, 0)]), ((2, 1), "theirs", [1, 0]), draw(3, (1, 2))])
