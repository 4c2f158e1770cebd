"""Least stores, stores for n steps, lists that are enough and the keeping strategy: points 40, 41, 42 and 44."""

from tests import lassos
from tests.support import Case, Dice, draw, number, way_on
from tests.worlds import full_game, ours, theirs, whole_game

from meanhold.stores import is_enough, keeping, least_stores, stores_for
from meanhold.surely import sure_gains

OF_STORES = [ours(-3, 1, 2), theirs(2, 0, 1), draw(-1, ("1/2", 0), ("1/2", 1)), ours(4, 0)]
PAID_BACK = [ours(-3, 1), theirs(4, 0, 1)]
# A place whose gain is just paid back, a place that stays at no gain, and a gift that leads to losses.
JUST_BACK = [theirs(-5, 1), draw(5, ("1/3", 0), ("1/3", 1), ("1/3", 0)), ours(0, 2, 2), draw(999, (1, 4)), ours(-1, 4)]
# It is best to give up a gain of 0 on a circle only where the way out costs less.
WAYS_OUT = [ours(0, 1, 0), ours(-5, 2), way_on(1, 2), ours(-2, 0, 1, 2), theirs(7, 3, 0), ours(-1, 5, 3)]
# A circle that loses 1 each time, and a way out of it that costs far more than a round.
SLOW = [ours(500, 1, 2), way_on(-501, 0)] + [way_on(-999, 3 + k) for k in range(9)] + [way_on(1, 11)]
LOSING = [theirs(999, 1, 1), way_on(-999, 2), way_on(998, 3), way_on(-999, 0)]
WHOLE_SINGLES = [[ours(-1, 0)], [theirs(0, 0, 0)], [draw(999, ("1/2", 0), ("1/2", 0))], [way_on(-999, 0)]]


def whole_full_game(seed):
    """A game of 12 places with 6 branches each whose gains are whole numbers up to 999."""
    dice = Dice(seed + 640)
    # In some games the losses are small: else nearly all stores would be endless.
    least = (999, 500, 60)[seed % 3]
    return [(number(dice.below(1000 + least) - least), kind, branches) for _, kind, branches in full_game(seed)]


WHOLE_KNOWN = [OF_STORES, PAID_BACK, JUST_BACK, WAYS_OUT] + WHOLE_SINGLES
WHOLE_SMALL = WHOLE_KNOWN + [whole_game(seed, (2, 9, 998)[seed % 3]) for seed in range(75)]
WHOLE_FULL = [whole_full_game(seed) for seed in range(18)]
WHOLE_GAMES = WHOLE_SMALL + [SLOW, LOSING] + WHOLE_FULL
WHOLE_BEYOND = [((7000 - 1009 * (x * x % 14), 1), ("ours", "theirs")[x % 2], [(x + 3 * k * k) % 14 for k in range(8)])
                for x in range(14)]


def wanted(place, stores):
    """The store that is needed behind a step; None is greater than each number."""
    best = min if place[1] == "ours" else max
    return best((stores[y] for y in lassos.targets(place)), key=lambda store: (store is None, store or 0))


class LeastStores(Case):
    def test_told_games(self):
        for game, stores in [(OF_STORES, [None] * 4), (PAID_BACK, [3, 0]), (JUST_BACK, [5, 0, 0, None, None]),
                             (WAYS_OUT, [0, 5, 0, 2, 0, 3]), (SLOW, [8491, 8992] + [999 * (9 - k) for k in range(10)]),
                             (LOSING, [None] * 4), ([ours(-1, 0)], [None]), ([theirs(0, 0, 0)], [0])]:
            self.assertEqual(self.asked(least_stores, game), stores)

    def test_by_all_choices(self):
        for game in WHOLE_SMALL:
            self.assertLess(lassos.plays(game), 1000)
            self.assertEqual(self.asked(least_stores, game), lassos.least_stores(game))

    def test_endless_where_the_sure_gain_is_below_0(self):
        endless = 0
        for game in WHOLE_SMALL:
            told = [None if gain < 0 else 0 for gain in lassos.sure_gains(game)]
            self.assertEqual([None if store is None else 0 for store in least_stores(game)], told)
        for game in WHOLE_GAMES + [WHOLE_BEYOND]:
            stores = self.asked(least_stores, game)
            self.assertEqual([store is None for store in stores], [n < 0 for n, _ in sure_gains(game)])
            endless += None in stores and stores != [None] * len(game)
        self.assertGreater(endless, 15)

    def test_they_are_just_enough(self):
        for game in WHOLE_GAMES + [WHOLE_BEYOND]:
            stores = least_stores(game)
            for place, store in zip(game, stores):
                behind = wanted(place, stores)
                self.assertEqual(store, None if behind is None else max(0, behind - place[0][0]))

    def test_a_gain_more_everywhere_needs_no_more(self):
        for game in WHOLE_GAMES:
            more = [((gain[0] + 1, 1), kind, branches) for gain, kind, branches in game]
            for store, less in zip(least_stores(game), least_stores(more)):
                self.assertTrue(store is None or less <= store)


class StoresFor(Case):
    def told(self, game, steps):
        stores = [0] * len(game)
        for _ in range(steps):
            stores = [max(0, wanted(place, stores) - place[0][0]) for place in game]
        return stores

    def test_told_games(self):
        for steps, stores in [(0, [0, 0, 0, 0]), (1, [3, 0, 1, 0]), (2, [3, 1, 4, 0]), (3, [4, 1, 4, 0])]:
            self.assertEqual(self.asked(stores_for, OF_STORES, steps), stores)
        for steps in (0, 1, 2, 5, 60):
            self.assertEqual(self.asked(stores_for, [way_on(-999, 0)], steps), [999 * steps])
        self.assertEqual(self.asked(stores_for, PAID_BACK, 60), [3, 0])

    def test_by_the_tests_own_look(self):
        for game in WHOLE_GAMES + [WHOLE_BEYOND]:
            for steps in (0, 1, 5, 60):
                self.assertEqual(self.asked(stores_for, game, steps), self.told(game, steps))

    def need_of_steps(self, game, x, steps, held=0, lowest=0):
        """The store that is needed for so many steps, by following all plays."""
        if steps == 0:
            return -lowest
        place = game[x]
        held += place[0][0]
        best = min if place[1] == "ours" else max
        return best(self.need_of_steps(game, y, steps - 1, held, min(lowest, held)) for y in lassos.targets(place))

    def test_by_following_all_plays(self):
        for game in WHOLE_SMALL:
            for steps in range(6):
                self.assertEqual(stores_for(game, steps),
                                 [self.need_of_steps(game, x, steps) for x in range(len(game))])

    def test_they_never_fall_and_never_exceed_the_least_stores(self):
        for game in WHOLE_GAMES:
            least = least_stores(game)
            before = [0] * len(game)
            for steps in range(1, 61):
                behind = stores_for(game, steps)
                self.assertTrue(all(a <= b for a, b in zip(before, behind)))
                self.assertTrue(all(b is None or a <= b for a, b in zip(behind, least)))
                before = behind

    def test_from_some_number_of_steps_on_they_are_the_least_stores(self):
        for game in [game for game in WHOLE_SMALL if max(abs(place[0][0]) for place in game) < 11]:
            least = least_stores(game)
            for store, late, later in zip(least, stores_for(game, 400), stores_for(game, 500)):
                self.assertTrue(late == later == store if store is not None else late < later)


class IsEnough(Case):
    def told(self, game, stores):
        for place, store in zip(game, stores):
            behind = wanted(place, stores)
            if store is not None and (behind is None or behind > store + place[0][0]):
                return False
        return True

    def test_told_lists(self):
        for stores, enough in [([3, 0], True), ([2, 0], False), ([4, 1], True), ([4, 0], True), ([3, 1], False),
                               ([None, 0], False), ([3, None], False), ([None, None], True), ([0, 0], False),
                               ([10 ** 40, 10 ** 40], False), ([10 ** 40, 10 ** 40 - 4], True),
                               ([10 ** 40 + 3, 10 ** 40], True), ([10 ** 40 + 4, 10 ** 40], True),
                               ([10 ** 40, 10 ** 40 - 5], False), ([10 ** 40 - 4, 10 ** 40 - 7], True),
                               ([10 ** 40 - 4, 10 ** 40 - 6], False)]:
            self.assertIs(self.asked(is_enough, PAID_BACK, stores), enough)

    def test_some_target_at_ours_and_each_one_elsewhere(self):
        for kind, some in (("ours", True), ("theirs", False), ("draw", False)):
            branches = [((1, 3), y) for y in range(3)] if kind == "draw" else [0, 1, 2]
            game = [way_on(0, 0), way_on(0, 1), way_on(0, 2), ((-2, 1), kind, branches)]
            for stores, enough in [([5, 5, 5, 7], True), ([5, 6, 7, 7], some), ([6, 6, 6, 7], False),
                                   ([5, None, None, 7], some), ([None, 6, None, 7], False),
                                   ([None, None, None, 7], False), ([None, None, None, None], True),
                                   ([6, 9, 5, 7], some), ([0, 0, 0, 2], True), ([0, 0, 0, 1], False),
                                   ([0, 0, 1, 2], some), ([None, 0, 0, None], True)]:
                self.assertIs(self.asked(is_enough, game, stores), enough)

    def test_the_least_stores_and_a_number_added_to_them(self):
        for game in WHOLE_GAMES + [WHOLE_BEYOND]:
            least = least_stores(game)
            for more in (0, 1, 17, 10 ** 30):
                stores = [None if store is None else store + more for store in least]
                self.assertIs(self.asked(is_enough, game, stores), True)

    def test_one_number_less_at_a_place(self):
        lists = 0
        for game in WHOLE_GAMES:
            least = least_stores(game)
            for x in [x for x, store in enumerate(least) if store]:
                self.assertIs(self.asked(is_enough, game, least[:x] + [least[x] - 1] + least[x + 1:]), False)
                lists += 1
        self.assertGreater(lists, 50)

    def test_lists_of_all_sorts(self):
        found = {True: 0, False: 0}
        for seed, game in enumerate(WHOLE_GAMES * 3):
            dice = Dice(seed)
            wide = (3, 20, 3000, 10 ** 20)[dice.below(4)]
            stores = [None if dice.below(4) == 0 else dice.below(wide) for _ in game]
            enough = self.asked(is_enough, game, stores)
            self.assertIs(enough, self.told(game, stores))
            found[enough] += 1
            least = least_stores(game)
            if enough:
                self.assertTrue(all(store is None or (low is not None and low <= store)
                                    for store, low in zip(stores, least)))
        self.assertGreater(min(found.values()), 20)


class Keeping(Case):
    def test_told_games(self):
        for game, strategy in [(OF_STORES, [0, None, None, 0]), (PAID_BACK, [0, None]),
                               (JUST_BACK, [None, None, 0, None, 0]), (WAYS_OUT, [1, 0, None, 0, None, 1]),
                               (SLOW, [1] + [None] * 11),
                               ([ours(0, 1, 2, 2, 1), way_on(-1, 1), way_on(0, 2)], [1, None, None]),
                               ([ours(5, 1, 2), way_on(-2, 3), way_on(-2, 3), way_on(1, 3)], [0, None, None, None])]:
            self.assertEqual(self.asked(keeping, game), strategy)

    def test_the_first_target_with_the_least_store(self):
        for game in WHOLE_GAMES + [WHOLE_BEYOND]:
            least = least_stores(game)
            told = []
            for place in game:
                reached = [least[y] for y in lassos.targets(place)]
                told.append(reached.index(wanted(place, least)) if place[1] == "ours" else None)
            self.assertEqual(self.asked(keeping, game), told)

    def look_at_plays(self, game, strategy, start, store):
        """No play from the start falls below 0; stores above the greatest least store are as good as this."""
        most = max(least for least in least_stores(game) if least is not None)
        seen, waiting = set(), [(start, store)]
        while waiting:
            x, held = waiting.pop()
            behind = min(held + game[x][0][0], most)
            self.assertGreaterEqual(behind, 0)
            told = lassos.targets(game[x]) if strategy[x] is None else [lassos.targets(game[x])[strategy[x]]]
            for y in told:
                if (y, behind) not in seen:
                    seen.add((y, behind))
                    waiting.append((y, behind))

    def test_the_store_never_falls_below_0(self):
        looked = 0
        for game in WHOLE_GAMES:
            strategy = keeping(game)
            for x, store in enumerate(least_stores(game)):
                if store is not None:
                    self.look_at_plays(game, strategy, x, store)
                    looked += 1
        self.assertGreater(looked, 150)
