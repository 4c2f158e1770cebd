"""Least stores in boxes: point 43."""

from tests import lassos
from tests.support import Case, way_on
from tests.test_stores import (JUST_BACK, OF_STORES, PAID_BACK, SLOW, WAYS_OUT, WHOLE_BEYOND, WHOLE_FULL, WHOLE_GAMES,
                               WHOLE_SMALL, wanted)
from tests.worlds import ours, theirs

from meanhold.stores import boxed_stores, least_stores


def round_and_way_out(length, loss, kind):
    """A circle that loses a little each time, with a dear way out; with the side of the place that may leave it."""
    game = [way_on(999 - loss, 1)] + [way_on(0, x + 1) for x in range(1, length - 1)] + [way_on(-999, 0)]
    game[0] = (game[0][0], kind, [1, length])
    return game + [way_on(-999, x + 1) for x in range(length, 11)] + [way_on(0, 11)]


def held_in_box(game, size):
    """The least stores in the box, by looking at each place with each store."""
    safe = {(x, store) for x in range(len(game)) for store in range(size + 1)}
    while True:
        unsafe = set()
        for x, store in safe:
            behind = min(size, store + game[x][0][0])
            some = any if game[x][1] == "ours" else all
            if behind < 0 or not some((y, behind) in safe for y in lassos.targets(game[x])):
                unsafe.add((x, store))
        if not unsafe:
            return [min((store for x, store in safe if x == place), default=None) for place in range(len(game))]
        safe -= unsafe


def counted(store):
    return (store is None, store or 0)


class BoxedStores(Case):
    def test_told_games(self):
        for game, size, stores in [
                (PAID_BACK, 2, [None, None]), (PAID_BACK, 3, [3, 0]), (PAID_BACK, 0, [None, None]),
                (PAID_BACK, 12000, [3, 0]), (OF_STORES, 12000, [None] * 4),
                (JUST_BACK, 12000, [5, 0, 0, None, None]), (JUST_BACK, 5, [5, 0, 0, None, None]),
                (JUST_BACK, 4, [None, None, 0, None, None]), (WAYS_OUT, 5, [0, 5, 0, 2, 0, 3]),
                (WAYS_OUT, 4, [0, None, 0, 2, 0, 3]), (WAYS_OUT, 2, [0, None, 0, 2, 0, None]),
                (WAYS_OUT, 1, [0, None, 0, None, None, None]), ([theirs(0, 0)], 0, [0]), ([ours(-1, 0)], 7, [None]),
                ([way_on(999, 0)], 0, [0]), (SLOW, 8991, [8491, None] + [999 * (9 - k) for k in range(10)]),
                (SLOW, 8990, [None, None, None] + [999 * (9 - k) for k in range(1, 10)]),
                (SLOW, 998, [None] * 11 + [0]), (SLOW, 999, [None] * 10 + [999, 0])]:
            self.assertEqual(self.asked(boxed_stores, game, size), stores)

    def test_what_is_lost_makes_others_need_more(self):
        # The cheap way needs a gain that the box cannot hold.
        game = [ours(0, 1, 3), way_on(9, 2), way_on(-6, 4), way_on(-3, 4), way_on(0, 4)]
        self.assertEqual(self.asked(boxed_stores, game, 6), [0, 0, 6, 3, 0])
        self.assertEqual(self.asked(boxed_stores, game, 5), [3, None, None, 3, 0])
        self.assertEqual(self.asked(boxed_stores, game, 2), [None, None, None, None, 0])
        game = [way_on(9, 1), way_on(-3, 2), way_on(-3, 3), way_on(0, 3)]
        self.assertEqual(self.asked(boxed_stores, game, 6), [0, 6, 3, 0])
        self.assertEqual(self.asked(boxed_stores, game, 5), [None, None, 3, 0])

    def test_by_looking_at_each_store(self):
        for game in [game for game in WHOLE_SMALL if max(abs(place[0][0]) for place in game) < 11]:
            for size in (0, 1, 2, 3, 5, 8, 13, 21):
                self.assertEqual(self.asked(boxed_stores, game, size), held_in_box(game, size))

    def test_in_a_greater_box_no_store_is_greater(self):
        changed = 0
        for game in WHOLE_GAMES:
            sizes = (0, 1, 3, 9, 100, 998, 999, 1500, 5000, 12000)
            found = [self.asked(boxed_stores, game, size) for size in sizes]
            for narrow, wide in zip(found, found[1:]):
                self.assertTrue(all(counted(b) <= counted(a) for a, b in zip(narrow, wide)))
                changed += narrow != wide
        self.assertGreater(changed, 35)

    def test_just_enough_in_the_box(self):
        for game in WHOLE_GAMES + [WHOLE_BEYOND]:
            for size in (0, 4, 300, 1100, 4000):
                stores = boxed_stores(game, size)
                for place, store in zip(game, stores):
                    behind = wanted(place, stores)
                    needed = None if behind is None else max(0, behind - place[0][0])
                    self.assertEqual(store, None if needed is None or needed > size else needed)

    def test_the_greatest_box(self):
        for game in WHOLE_GAMES:
            self.assertEqual(self.asked(boxed_stores, game, 12000), least_stores(game))
        self.assertEqual(self.asked(boxed_stores, WHOLE_BEYOND, 10 ** 9), least_stores(WHOLE_BEYOND))

    def test_a_circle_that_loses_little_and_a_dear_way_out(self):
        for kind in ("ours", "theirs"):
            for length in range(2, 10):
                for loss in (1, 2, 7, 0, -1):
                    game = round_and_way_out(length, loss, kind)
                    way_out = [999 * (11 - x) for x in range(length, 12)]
                    first = max(0, way_out[0] - 999 + loss)
                    if kind == "ours" and loss <= 0:
                        first = 0
                    if kind == "theirs" and loss > 0:
                        first = None
                    rest = [None if first is None else first + 999] * (length - 1)
                    self.assertEqual(boxed_stores(game, 12000), [first] + rest + way_out)
                    self.assertEqual(least_stores(game), [first] + rest + way_out)

    def test_some_hundreds_of_great_boxes(self):
        slow = [SLOW, round_and_way_out(10, 1, "ours"), round_and_way_out(10, 1, "theirs")]
        for game in slow * 60 + WHOLE_FULL * 10:
            stores = least_stores(game)
            for size in (11000, 12000):
                self.assertEqual(boxed_stores(game, size), stores)
