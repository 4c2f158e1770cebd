"""The sums behind all numbers: points 1 and 4."""

from fractions import Fraction

from tests import reckoning
from tests.support import Case, draw, number, way_on

from meanhold.exact import (common_denominator, divided, greatest, is_less, is_short, is_whole, least, lowest, minus,
                            negative, plus, times, total, whole_at, width)
from meanhold.linear import solved
from meanhold.places import mean_at, worth_at

LONG = Fraction(3 ** 400, 7 ** 350)
VALUES = [Fraction(n, d) for n in range(-6, 7) for d in range(1, 6)] + [LONG, -LONG, 1 / LONG, Fraction(7 ** 90)]


class Numbers(Case):
    def test_lowest_terms(self):
        self.assertEqual(lowest(0, 7), (0, 1))
        self.assertEqual(lowest(-6, 4), (-3, 2))
        self.assertEqual(lowest(10 ** 40, 10 ** 39), (10, 1))

    def test_sums_differences_products_quotients(self):
        for a in VALUES:
            for b in VALUES:
                self.assertEqual(self.exact(plus(number(a), number(b))), a + b)
                self.assertEqual(self.exact(minus(number(a), number(b))), a - b)
                self.assertEqual(self.exact(times(number(a), number(b))), a * b)
                if b > 0:
                    self.assertEqual(self.exact(divided(number(a), number(b))), a / b)

    def test_order(self):
        for a in VALUES:
            for b in VALUES:
                self.assertIs(is_less(number(a), number(b)), a < b)
        numbers = [number(a) for a in VALUES]
        for many in range(1, len(numbers)):
            self.assertEqual(greatest(numbers[:many]), number(max(VALUES[:many])))
            self.assertEqual(least(numbers[:many]), number(min(VALUES[:many])))
            self.assertEqual(width(numbers[:many]), number(max(VALUES[:many]) - min(VALUES[:many])))

    def test_the_other_sign(self):
        for a in VALUES:
            self.assertEqual(self.exact(negative(number(a))), -a)

    def test_totals(self):
        self.assertEqual(total([]), (0, 1))
        self.assertEqual(self.exact(total([number(a) for a in VALUES])), sum(VALUES))

    def test_common_denominators(self):
        self.assertEqual(common_denominator([]), 1)
        self.assertEqual(common_denominator([(1, 4), (5, 6), (0, 1)]), 12)
        self.assertEqual(whole_at((-5, 6), 12), -10)

    def test_whole_and_short(self):
        for value in (0, 1, -1, 10 ** 30):
            self.assertIs(is_whole(value), True)
        for value in (True, False, None, "1", 1.0, (1,), [1]):
            self.assertIs(is_whole(value), False)
        for value in ((0, 1), (999, 1), (-999, 998), (1, 999)):
            self.assertIs(is_short(value), True)
        for value in ((1000, 1), (-1000, 1), (1, 1000), (2, 2), (0, 3), (1, -1), (1, 0), [0, 1], True):
            self.assertIs(is_short(value), False)


class Means(Case):
    def test_the_mean_at_a_draw(self):
        numbers = [(1, 2), (3, 1), (-7, 5)]
        self.assertEqual(self.asked(mean_at, draw(9, ("1/2", 0), ("1/3", 1), ("1/6", 2)), numbers), (61, 60))
        self.assertEqual(self.asked(mean_at, draw(9, ("1/2", 1), ("1/2", 1)), numbers), (3, 1))
        self.assertEqual(self.asked(mean_at, way_on(9, 2), numbers), (-7, 5))

    def test_the_worth_at_a_place(self):
        numbers = [(1, 2), (3, 1), (-7, 5)]
        self.assertEqual(self.asked(worth_at, draw(9, ("1/2", 0), ("1/3", 1), ("1/6", 2)), numbers), (61, 60))
        self.assertEqual(self.asked(worth_at, ((9, 1), "ours", [0, 2, 0]), numbers), (1, 2))
        self.assertEqual(self.asked(worth_at, ((9, 1), "ours", [2, 1, 0]), numbers), (3, 1))
        self.assertEqual(self.asked(worth_at, ((9, 1), "theirs", [0, 1, 0]), numbers), (1, 2))
        self.assertEqual(self.asked(worth_at, ((9, 1), "theirs", [1, 2, 0]), numbers), (-7, 5))


class Equations(Case):
    def test_no_equation(self):
        self.assertEqual(self.asked(solved, [], []), [])

    def test_equations(self):
        self.assertEqual(self.asked(solved, [[3]], [(1, 2)]), [(1, 6)])
        self.assertEqual(self.asked(solved, [[2, -1], [-1, 3]], [(1, 1), (1, 3)]), [(2, 3), (1, 3)])

    def test_equations_of_three(self):
        rows, constants = [[4, -1, -2], [-1, 5, 0], [0, -3, 4]], [Fraction(1), Fraction(0), Fraction(-7, 2)]
        found = self.all_exact(self.asked(solved, rows, [number(constant) for constant in constants]))
        self.assertEqual(found, reckoning.solution([[Fraction(a) for a in row] for row in rows], constants))
