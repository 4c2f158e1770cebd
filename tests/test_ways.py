"""Ways to a place and the gains on them: points 14 and 15."""

from tests import reckoning
from tests.support import (CHAINS, Case, EXAMPLE, MAY_MISS, NAMED, RING_OF_TWO, RINGS_AND_STAY, SINGLE, TWO_STAYS, draw,
                           way_on)

from meanhold.leads import gains_on_ways, leads, long_gains, ways_to


class WaysTo(Case):
    def test_told_chains(self):
        self.assertEqual(self.asked(ways_to, SINGLE, 0), [(0, 1)])
        self.assertEqual(self.asked(gains_on_ways, SINGLE, 0), [(0, 1)])
        self.assertEqual(self.asked(ways_to, EXAMPLE, 0), [(0, 1), (2, 1)])
        self.assertEqual(self.asked(gains_on_ways, EXAMPLE, 0), [(0, 1), (0, 1)])
        self.assertEqual(self.asked(ways_to, EXAMPLE, 1), [(1, 1), (0, 1)])
        self.assertEqual(self.asked(gains_on_ways, EXAMPLE, 1), [(4, 1), (0, 1)])
        self.assertEqual(self.asked(ways_to, RING_OF_TWO, 1), [(1, 1), (0, 1)])

    def test_a_place_that_may_be_missed(self):
        self.assertEqual(self.asked(ways_to, MAY_MISS, 1), [None, (0, 1), None])
        self.assertEqual(self.asked(ways_to, MAY_MISS, 2), [None, None, (0, 1)])
        self.assertEqual(self.asked(ways_to, MAY_MISS, 0), [(0, 1), None, None])
        self.assertEqual(self.asked(gains_on_ways, MAY_MISS, 1), [None, (0, 1), None])
        self.assertEqual(self.asked(gains_on_ways, TWO_STAYS, 0), [(0, 1), None, None])
        self.assertEqual(self.asked(ways_to, RINGS_AND_STAY, 0), [(0, 1)] + [None] * 5 + [(2, 1), (3, 1)])
        self.assertEqual(self.asked(gains_on_ways, RINGS_AND_STAY, 0), [(0, 1)] + [None] * 5 + [(-14, 1), (86, 1)])

    def test_a_place_that_is_left_for_ever(self):
        chain = [draw(3, ("1/2", 0), ("1/2", 1)), draw("1/4", ("3/4", 1), ("1/4", 2)), way_on(7, 3), way_on(0, 3)]
        self.assertEqual(self.asked(ways_to, chain, 2), [(6, 1), (4, 1), (0, 1), None])
        self.assertEqual(self.asked(gains_on_ways, chain, 2), [(7, 1), (1, 1), (0, 1), None])
        self.assertEqual(self.asked(ways_to, chain, 3), [(7, 1), (5, 1), (1, 1), (0, 1)])
        self.assertEqual(self.asked(gains_on_ways, chain, 3), [(14, 1), (8, 1), (7, 1), (0, 1)])
        self.assertEqual(self.asked(ways_to, chain, 1), [(2, 1), (0, 1), None, None])

    def test_where_a_miss_comes_only_behind_the_place(self):
        chain = [way_on(1, 1), draw(2, ("1/2", 0), ("1/2", 2)), way_on(3, 2)]
        self.assertEqual(self.asked(ways_to, chain, 1), [(1, 1), (0, 1), None])
        self.assertEqual(self.asked(ways_to, chain, 0), [(0, 1), None, None])
        self.assertEqual(self.asked(gains_on_ways, chain, 1), [(1, 1), (0, 1), None])

    def test_none_just_where_the_place_may_be_missed(self):
        seen = {True: 0, False: 0}
        for chain in CHAINS:
            for place in range(len(chain)):
                sure = reckoning.sure_to_come(chain, place)
                for function in (ways_to, gains_on_ways):
                    found = self.all_exact(self.asked(function, chain, place))
                    self.assertEqual([way is not None for way in found], sure)
                for x in sure:
                    seen[x] += 1
        self.assertGreater(min(seen.values()), 100)

    def test_the_equations_of_point_14(self):
        for chain in CHAINS:
            rows = reckoning.matrix(chain)
            for place in range(len(chain)):
                for function, booked in ((ways_to, [1] * len(chain)), (gains_on_ways, reckoning.gains(chain))):
                    found = self.all_exact(function(chain, place))
                    self.assertEqual(found[place], 0)
                    for x in range(len(chain)):
                        if x != place and found[x] is not None:
                            behind = [rows[x][y] * found[y] for y in range(len(chain)) if rows[x][y] > 0]
                            self.assertEqual(found[x], booked[x] + sum(behind))

    def test_point_15(self):
        pairs = 0
        for chain in NAMED + CHAINS[10:50]:
            g, h = self.all_exact(long_gains(chain)), self.all_exact(leads(chain))
            ways = [self.all_exact(ways_to(chain, z)) for z in range(len(chain))]
            sums = [self.all_exact(gains_on_ways(chain, z)) for z in range(len(chain))]
            for x in range(len(chain)):
                for z in range(len(chain)):
                    if ways[z][x] is not None and ways[x][z] is not None:
                        self.assertEqual(h[x] - h[z], sums[z][x] - g[z] * ways[z][x])
                        pairs += x != z
        self.assertGreater(pairs, 100)
