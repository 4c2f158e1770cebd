"""The examples of the interface, as they stand there."""

import doctest
import unittest
from pathlib import Path

PLAYS = '''
>>> from meanhold.plays import gain_per_step, play_of, unrolled
>>> game = [((1, 1), "ours", [1, 0]), ((-1, 2), "theirs", [2, 0]), ((3, 1), "ours", [1])]
>>> play_of(game, 0, ours=[0, None, 0], theirs=[None, 0, None])
([0], [0, 0])
>>> gain_per_step(game, 0, [0], [0, 0])
(5, 4)
>>> unrolled(game, 0, [1, 0, 0, 0, 1, 1])
([], [(0, [1]), (1, [0, 0]), (0, [0, 1]), (0, [1])])
'''

LEADS = '''
>>> from meanhold.leads import leads, long_gains
>>> chain = [((4, 1), "draw", [((1, 1), 1)]), ((0, 1), "draw", [((1, 2), 0), ((1, 2), 1)])]
>>> long_gains(chain)
[(4, 3), (4, 3)]
>>> leads(chain)
[(16, 9), (-8, 9)]
'''

DISCOUNTS = '''
>>> from meanhold.discounts import discounted_worths
>>> discounted_worths([((1, 1), "ours", [0, 1]), ((3, 1), "draw", [((1, 1), 0)])], discount=(1, 2))
[(10, 3), (14, 3)]
'''

AGAINST = '''
>>> from meanhold.against import is_lower, least_against
>>> game = [((4, 1), "ours", [0, 1]), ((-2, 1), "theirs", [0, 1])]
>>> least_against(game, [0, None])[0][0], least_against(game, [1, None])[0][0]
([(4, 1), (-2, 1)], [(-2, 1), (-2, 1)])
>>> is_lower(game, ([(4, 1), (-2, 1)], [(6, 1), (0, 1)]), ours=[0, None])
True
'''

MEANS = '''
>>> from meanhold.means import values
>>> values([((0, 1), "ours", [1, 2]), ((6, 1), "theirs", [0, 1]), ((5, 2), "draw", [((1, 2), 2), ((1, 2), 0)])])
[(3, 1), (3, 1), (3, 1)]
'''

ROUNDS = '''
>>> from meanhold.rounds import best_moves, bracket, worths
>>> game = [((3, 1), "ours", [0, 1]), ((0, 1), "theirs", [0, 2]), ((5, 1), "draw", [((1, 2), 0), ((1, 2), 2)])]
>>> worths(game, 2)
[(6, 1), (3, 1), (9, 1)]
>>> best_moves(game, 0, 3), best_moves(game, 1, 3)
([0], [0])
>>> bracket(game, 1)
((3, 1), (4, 1))
'''

RINGS = '''
>>> from meanhold.rings import greatest_ring, shows_no_greater
>>> game = [((4, 1), "ours", [1, 0]), ((7, 1), "draw", [((1, 1), 2)]), ((3, 1), "ours", [0, 1])]
>>> sorted(greatest_ring(game, 0))
[1, 2]
>>> shows_no_greater(game, 0, (5, 1), [(0, 1), (1, 1), (-1, 1)])
True
'''

STORES = '''
>>> from meanhold.stores import boxed_stores, is_enough, least_stores, stores_for
>>> game = [((-3, 1), "ours", [1, 2]), ((2, 1), "theirs", [0, 1]), ((-1, 1), "draw", [((1, 2), 0), ((1, 2), 1)]), ((4, 1), "ours", [0])]
>>> least_stores(game)
[None, None, None, None]
>>> stores_for(game, 3)
[4, 1, 4, 0]
>>> least_stores([((-3, 1), "ours", [1]), ((4, 1), "theirs", [0, 1])])
[3, 0]
>>> boxed_stores([((-3, 1), "ours", [1]), ((4, 1), "theirs", [0, 1])], 2)
[None, None]
'''

SURELY = '''
>>> from meanhold.surely import bands, sure_gains_of
>>> game = [((0, 1), "ours", [1, 2]), ((1, 1), "draw", [((1, 2), 1), ((1, 2), 2)]), ((0, 1), "draw", [((1, 1), 1)])]
>>> bands(game)
[((1, 2), (2, 3), (1, 1)), ((1, 2), (2, 3), (1, 1)), ((1, 2), (2, 3), (1, 1))]
>>> sure_gains_of(game, [0, None, None])
[(1, 2), (1, 2), (1, 2)]
'''

CHANGES = '''
>>> from meanhold.changes import bend, mean_rise, price, values_for
>>> game = [((0, 1), "ours", [0, 1]), ((2, 1), "draw", [((1, 2), 0), ((1, 2), 1)])]
>>> values_for(game, 0, [(0, 1), (2, 1), (4, 1)], at=1)
[(4, 3), (2, 1), (4, 1)]
>>> mean_rise(game, 0, (0, 1), (2, 1), at=1), bend(game, 0, [(0, 1), (2, 1), (4, 1)], at=1)
((1, 3), 1)
>>> price(game, 0, (5, 2), at=1)
3
'''

STAYS = '''
>>> from meanhold.stays import stays
>>> stays([((9, 1), "ours", [0, 1]), ((0, 1), "theirs", [0, 1])], [0], side="ours")
[(1, 1), (0, 1)]
'''

LEDGER = '''
>>> from meanhold.ledger import Ledger
>>> game = [((0, 1), "ours", [0, 1]), ((2, 1), "draw", [((1, 2), 0), ((1, 2), 1)])]
>>> answer = ([(4, 3), (4, 3)], [(0, 1), (4, 3)], [1, None], [None, None])
>>> ledger = Ledger(game, answer, start=0)
>>> ledger.step(1)
('slip', (0, 1), (0, 1))
>>> ledger.step(0)
('luck', (-2, 3), (0, 1))
>>> ledger.step(0)
('slip', (-4, 3), (0, 1))
>>> ledger.gains(), ledger.due(), ledger.lead()
((2, 1), (4, 1), (0, 1))
'''

IMPORT = '''
>>> from meanhold.games import check_game
'''


class Examples(unittest.TestCase):
    def run_example(self, text, many):
        example = doctest.DocTestParser().get_doctest(text, {}, "example", None, None)
        told = []
        results = doctest.DocTestRunner().run(example, out=told.append)
        self.assertEqual(results.failed, 0, "".join(told))
        self.assertEqual(results.attempted, many)

    def test_plays(self):
        self.run_example(PLAYS, 5)

    def test_leads(self):
        self.run_example(LEADS, 4)

    def test_discounts(self):
        self.run_example(DISCOUNTS, 2)

    def test_against(self):
        self.run_example(AGAINST, 4)

    def test_means(self):
        self.run_example(MEANS, 2)

    def test_rounds(self):
        self.run_example(ROUNDS, 5)

    def test_rings(self):
        self.run_example(RINGS, 4)

    def test_stores(self):
        self.run_example(STORES, 6)

    def test_surely(self):
        self.run_example(SURELY, 4)

    def test_changes(self):
        self.run_example(CHANGES, 5)

    def test_stays(self):
        self.run_example(STAYS, 2)

    def test_ledger(self):
        self.run_example(LEDGER, 8)

    def test_import(self):
        self.run_example(IMPORT, 1)

    def test_readme(self):
        readme = Path(__file__).parent.parent / "README.md"
        self.run_example(readme.read_text(encoding="utf-8").replace("```", ""), 29)
