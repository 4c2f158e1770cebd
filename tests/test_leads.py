"""Chains in the long run: points 11, 12, 13, and the second sentence of point 16."""

from fractions import Fraction

from tests import reckoning
from tests.support import (CHAINS, Case, EXAMPLE, LONG_NUMBERS, MAY_MISS, NAMED, RING_OF_TWO, RINGS_AND_STAY, SINGLE,
                           SINGLE_THRICE, TWO_STAYS, draw, number, way_on)

from meanhold.leads import first_gains, leads, long_gains, spread


def with_gains(chain, gains):
    return [(number(gain), kind, branches) for gain, (_, kind, branches) in zip(gains, chain)]


class LongGainsAndLeads(Case):
    def test_told_chains(self):
        self.assertEqual(self.asked(long_gains, SINGLE), [(7, 2)])
        self.assertEqual(self.asked(leads, SINGLE), [(0, 1)])
        self.assertEqual(self.asked(long_gains, SINGLE_THRICE), [(-5, 1)])
        self.assertEqual(self.asked(leads, SINGLE_THRICE), [(0, 1)])
        self.assertEqual(self.asked(long_gains, RING_OF_TWO), [(2, 1), (2, 1)])
        self.assertEqual(self.asked(leads, RING_OF_TWO), [(1, 1), (-1, 1)])
        self.assertEqual(self.asked(long_gains, EXAMPLE), [(4, 3), (4, 3)])
        self.assertEqual(self.asked(leads, EXAMPLE), [(16, 9), (-8, 9)])
        self.assertEqual(self.asked(long_gains, TWO_STAYS), [(-3, 1), (3, 1), (-6, 1)])
        self.assertEqual(self.asked(leads, TWO_STAYS), [(13, 1), (0, 1), (0, 1)])
        self.assertEqual(self.asked(long_gains, MAY_MISS), [(3, 1), (2, 1), (4, 1)])
        self.assertEqual(self.asked(leads, MAY_MISS), [(-2, 1), (0, 1), (0, 1)])

    def test_a_long_way_to_where_the_play_stays(self):
        chain = [way_on(x, min(x + 1, 11)) for x in range(12)]
        self.assertEqual(self.asked(long_gains, chain), [(11, 1)] * 12)
        self.assertEqual(self.asked(leads, chain), [(-(11 - x) * (12 - x) // 2, 1) for x in range(12)])

    def test_the_three_conditions(self):
        for chain in CHAINS:
            g = self.all_exact(self.asked(long_gains, chain))
            h = self.all_exact(self.asked(leads, chain))
            rows, gains, shares = reckoning.matrix(chain), reckoning.gains(chain), reckoning.shares(chain)
            self.assertEqual((len(g), len(h)), (len(chain), len(chain)))
            self.assertEqual(reckoning.applied(rows, g), g)
            self.assertEqual([a + b for a, b in zip(g, h)],
                             [a + b for a, b in zip(gains, reckoning.applied(rows, h))])
            self.assertEqual(reckoning.applied(shares, h), [0] * len(chain))
            self.assertEqual(reckoning.applied(shares, gains), g)

    def test_the_shares_of_the_tests(self):
        for chain in CHAINS:
            rows, shares = reckoning.matrix(chain), reckoning.shares(chain)
            for row in shares:
                self.assertEqual(sum(row), 1)
                self.assertGreaterEqual(min(row), 0)
                back = [sum(row[x] * rows[x][y] for x in range(len(chain))) for y in range(len(chain))]
                self.assertEqual(back, row)
            for x, row in enumerate(shares):
                for y in range(len(chain)):
                    self.assertEqual(sum(rows[x][z] * shares[z][y] for z in range(len(chain))), row[y])

    def test_long_gains_are_the_limits_of_first_gains(self):
        for chain in CHAINS:
            g = self.all_exact(long_gains(chain))
            h = self.all_exact(leads(chain))
            wide = max(h) - min(h)
            sums = reckoning.first_gains(chain, 12)
            for n in range(13):
                for x in range(len(chain)):
                    self.assertLessEqual(abs(sums[n][x] - n * g[x]), wide)

    def test_the_chains_are_of_all_sorts(self):
        groups = [len(reckoning.closed_groups(reckoning.matrix(chain))) for chain in CHAINS]
        self.assertGreater(len([many for many in groups if many > 1]), 10)
        self.assertGreater(len([many for many in groups if many == 1]), 10)
        self.assertEqual(reckoning.closed_groups(reckoning.matrix(RINGS_AND_STAY)), [[1, 2], [3, 4], [5]])

    def test_a_number_added_to_all_gains(self):
        for chain in CHAINS[:40]:
            for added in (Fraction(5), Fraction(-7, 3)):
                other = with_gains(chain, [gain + added for gain in reckoning.gains(chain)])
                self.assertEqual(leads(other), leads(chain))
                self.assertEqual(self.all_exact(long_gains(other)),
                                 [g + added for g in self.all_exact(long_gains(chain))])

    def test_gains_multiplied_by_a_number(self):
        for chain in CHAINS[:40]:
            for factor in (Fraction(3), Fraction(-2, 5), Fraction(0)):
                other = with_gains(chain, [gain * factor for gain in reckoning.gains(chain)])
                self.assertEqual(self.all_exact(leads(other)),
                                 [h * factor for h in self.all_exact(leads(chain))])
                self.assertEqual(self.all_exact(long_gains(other)),
                                 [g * factor for g in self.all_exact(long_gains(chain))])


class FirstGains(Case):
    def test_no_steps_and_one_step(self):
        for chain in CHAINS:
            self.assertEqual(self.asked(first_gains, chain, steps=0), [(0, 1)] * len(chain))
            self.assertEqual(self.asked(first_gains, chain, steps=1), [place[0] for place in chain])

    def test_told_chains(self):
        self.assertEqual(self.asked(first_gains, EXAMPLE, steps=2), [(4, 1), (2, 1)])
        self.assertEqual(self.asked(first_gains, EXAMPLE, steps=3), [(6, 1), (3, 1)])
        self.assertEqual(self.asked(first_gains, RING_OF_TWO, steps=5), [(12, 1), (8, 1)])
        self.assertEqual(self.asked(first_gains, SINGLE, steps=60), [(210, 1)])
        self.assertEqual(self.asked(first_gains, TWO_STAYS, steps=60), [(-167, 1), (180, 1), (-360, 1)])

    def test_steps_one_by_one(self):
        for chain in CHAINS[:45]:
            sums = reckoning.first_gains(chain, 9)
            for n in range(10):
                self.assertEqual(self.all_exact(self.asked(first_gains, chain, steps=n)), sums[n])

    def test_the_equation_of_point_13(self):
        for chain in NAMED[:-1] + CHAINS[10:22]:
            g, h = self.all_exact(long_gains(chain)), self.all_exact(leads(chain))
            for n in (0, 1, 2, 7, 60):
                found = self.all_exact(first_gains(chain, steps=n))
                for x in range(len(chain)):
                    chances = reckoning.chances_of_places(chain, n, x)
                    behind = sum(chance * lead for chance, lead in zip(chances, h))
                    self.assertEqual(found[x], n * g[x] + h[x] - behind)

    def test_sixty_steps_of_long_numbers(self):
        found = self.all_exact(self.asked(first_gains, LONG_NUMBERS, steps=60))
        self.assertEqual(found, reckoning.first_gains(LONG_NUMBERS, 60)[-1])


class Spread(Case):
    def test_told_chains(self):
        self.assertEqual(self.asked(spread, SINGLE), (0, 1))
        self.assertEqual(self.asked(spread, SINGLE_THRICE), (0, 1))
        self.assertEqual(self.asked(spread, [way_on("2/3", 0), way_on(5, 1)]), (0, 1))
        self.assertEqual(self.asked(spread, RING_OF_TWO), (2, 1))
        self.assertEqual(self.asked(spread, EXAMPLE), (8, 3))
        self.assertEqual(self.asked(spread, TWO_STAYS), (13, 1))
        self.assertEqual(self.asked(spread, MAY_MISS), (2, 1))
        self.assertEqual(self.asked(spread, [draw(0, ("1/2", 0), ("1/2", 1)), draw("1/6", ("1/2", 1), ("1/2", 0))]),
                         (1, 6))

    def test_the_greatest_lead_less_the_least(self):
        for chain in CHAINS:
            h = self.all_exact(leads(chain))
            self.assertEqual(self.exact(self.asked(spread, chain)), max(h) - min(h))
