"""The interface: names, arguments and the files in which they are defined."""

import importlib
import inspect
import unittest

SIGNATURES = {
    "meanhold.games": {
        "check_game": "(game)",
        "with_strategy": "(game, side, strategy)",
    },
    "meanhold.plays": {
        "places_on": "(game, start, branches)",
        "sum_of": "(game, start, branches)",
        "chance_of": "(game, start, branches)",
        "gain_per_step": "(game, start, beginning, circle)",
        "follows": "(game, start, branches, *, side, strategy)",
        "unrolled": "(game, start, branches)",
        "play_of": "(game, start, *, ours, theirs)",
    },
    "meanhold.leads": {
        "long_gains": "(chain)",
        "leads": "(chain)",
        "first_gains": "(chain, *, steps)",
        "spread": "(chain)",
        "ways_to": "(chain, place)",
        "gains_on_ways": "(chain, place)",
    },
    "meanhold.discounts": {
        "discounted_worths": "(game, *, discount)",
        "are_worths": "(game, numbers, *, discount)",
        "discounted_strategies": "(game, *, discount)",
        "worths_of_steps": "(game, *, discount, steps)",
        "rest_of": "(game, *, discount, steps)",
        "steps_for": "(game, *, discount, error)",
    },
    "meanhold.against": {
        "are_rows": "(game, rows)",
        "is_lower": "(game, rows, *, ours)",
        "is_upper": "(game, rows, *, theirs)",
        "least_against": "(game, ours)",
        "greatest_against": "(game, theirs)",
        "shows_least": "(game, rows, *, ours, theirs)",
        "shows_greatest": "(game, rows, *, ours, theirs)",
    },
    "meanhold.means": {
        "values": "(game)",
        "answer_of": "(game)",
        "check_answer": "(game, answer)",
        "is_best": "(game, strategy, *, side)",
        "lifted": "(answer, *, by, plus)",
        "lift_needed": "(game, answer)",
    },
    "meanhold.slacks": {
        "slacks": "(game, rows)",
        "tight_branches": "(game, rows)",
        "sums_at_least": "(rows, place, count)",
        "sums_at_most": "(rows, place, count)",
        "steps_for": "(rows, *, near)",
    },
    "meanhold.rounds": {
        "worths": "(game, steps)",
        "worths_from": "(game, start, steps)",
        "best_moves": "(game, place, steps)",
        "bracket": "(game, steps)",
        "steps_to": "(game, place, amount)",
    },
    "meanhold.rings": {
        "is_ours_alone": "(game)",
        "is_ring": "(game, places)",
        "ring_mean": "(game, ring)",
        "greatest_ring": "(game, place)",
        "potentials_for": "(game, place)",
        "shows_no_greater": "(game, place, mean, potentials)",
    },
    "meanhold.stores": {
        "least_stores": "(game)",
        "stores_for": "(game, steps)",
        "is_enough": "(game, stores)",
        "boxed_stores": "(game, size)",
        "keeping": "(game)",
    },
    "meanhold.surely": {
        "against_us": "(game)",
        "for_us": "(game)",
        "sure_gains": "(game)",
        "hoped_gains": "(game)",
        "bands": "(game)",
        "sure_strategy": "(game)",
        "sure_gains_of": "(game, ours)",
        "firm_places": "(game)",
    },
    "meanhold.changes": {
        "with_gain": "(game, place, gain)",
        "with_gains_added": "(game, additions)",
        "values_for": "(game, place, gains, *, at)",
        "mean_rise": "(game, place, first, second, *, at)",
        "bend": "(game, place, gains, *, at)",
        "price": "(game, place, goal, *, at)",
    },
    "meanhold.stays": {
        "visiting": "(game, places)",
        "stays": "(game, places, *, side)",
        "weighed": "(game, places, *, weight)",
    },
    "meanhold.ledger": {
        "replay": "(game, answer, journal, *, start)",
    },
    "meanhold.joining": {
        "slowed": "(game, k)",
        "in_turns": "(first, second)",
        "shifted": "(game, number)",
        "scaled": "(game, number)",
        "turned_round": "(game)",
        "rolled": "(chain, numbers)",
    },
}
LEDGER = {
    "__init__": "(self, game, answer, *, start)",
    "__len__": "(self)",
    "step": "(self, branch)",
    "undo": "(self)",
    "redo": "(self)",
    "do_all": "(self, deeds)",
    "way": "(self)",
    "here": "(self)",
    "gains": "(self)",
    "due": "(self)",
    "lead": "(self)",
    "bookings": "(self, word)",
    "shifts": "(self, word)",
    "free_branches": "(self)",
    "journal": "(self)",
}
CLASSES = ["GainError", "BadSize", "BadNumber", "BadKind", "BadChance", "BadTarget", "NoBranch",
           "NoCircle", "NotRight", "NothingToUndo", "NothingToRedo", "BadEntry"]


class Interface(unittest.TestCase):
    def test_functions_stand_in_their_files_with_their_arguments(self):
        for name, functions in SIGNATURES.items():
            module = importlib.import_module(name)
            for word, arguments in functions.items():
                function = getattr(module, word)
                self.assertTrue(inspect.isfunction(function))
                self.assertEqual(function.__module__, name)
                self.assertEqual(str(inspect.signature(function)), arguments, word)

    def test_error_classes_stand_in_their_file(self):
        module = importlib.import_module("meanhold.errors")
        for word in CLASSES:
            self.assertTrue(inspect.isclass(getattr(module, word)))
            self.assertEqual(getattr(module, word).__module__, "meanhold.errors")

    def test_the_ledger_defines_its_methods_itself(self):
        ledger = importlib.import_module("meanhold.ledger").Ledger
        self.assertEqual(ledger.__module__, "meanhold.ledger")
        for word, arguments in LEDGER.items():
            method = vars(ledger)[word]
            self.assertTrue(inspect.isfunction(method))
            self.assertEqual(str(inspect.signature(method)), arguments, word)
        for word in ("can_undo", "can_redo"):
            self.assertIsInstance(vars(ledger)[word], property)
            self.assertIsNone(vars(ledger)[word].fset)
