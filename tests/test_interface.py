"""The interface: names, arguments and the files in which they are defined."""

import importlib
import inspect
import unittest

SIGNATURES = {
    "meanhold.games": {
        "check_game": "(game)",
        "with_strategy": "(game, side, strategy)",
    },
    "meanhold.plays": {
        "places_on": "(game, start, branches)",
        "sum_of": "(game, start, branches)",
        "chance_of": "(game, start, branches)",
        "gain_per_step": "(game, start, beginning, circle)",
        "follows": "(game, start, branches, *, side, strategy)",
        "unrolled": "(game, start, branches)",
        "play_of": "(game, start, *, ours, theirs)",
    },
    "meanhold.leads": {
        "long_gains": "(chain)",
        "leads": "(chain)",
        "first_gains": "(chain, *, steps)",
        "spread": "(chain)",
        "ways_to": "(chain, place)",
        "gains_on_ways": "(chain, place)",
    },
    "meanhold.discounts": {
        "discounted_worths": "(game, *, discount)",
        "are_worths": "(game, numbers, *, discount)",
        "discounted_strategies": "(game, *, discount)",
        "worths_of_steps": "(game, *, discount, steps)",
        "rest_of": "(game, *, discount, steps)",
        "steps_for": "(game, *, discount, error)",
    },
    "meanhold.against": {
        "are_rows": "(game, rows)",
        "is_lower": "(game, rows, *, ours)",
        "is_upper": "(game, rows, *, theirs)",
        "least_against": "(game, ours)",
        "greatest_against": "(game, theirs)",
        "shows_least": "(game, rows, *, ours, theirs)",
        "shows_greatest": "(game, rows, *, ours, theirs)",
    },
    "meanhold.means": {
        "values": "(game)",
        "answer_of": "(game)",
        "check_answer": "(game, answer)",
        "is_best": "(game, strategy, *, side)",
        "lifted": "(answer, *, by, plus)",
        "lift_needed": "(game, answer)",
    },
    "meanhold.slacks": {
        "slacks": "(game, rows)",
        "tight_branches": "(game, rows)",
        "sums_at_least": "(rows, place, count)",
        "sums_at_most": "(rows, place, count)",
        "steps_for": "(rows, *, near)",
    },
    "meanhold.rounds": {
        "worths": "(game, steps)",
        "worths_from": "(game, start, steps)",
        "best_moves": "(game, place, steps)",
        "bracket": "(game, steps)",
        "steps_to": "(game, place, amount)",
    },
    "meanhold.rings": {
        "is_ours_alone": "(game)",
        "is_ring": "(game, places)",
        "ring_mean": "(game, ring)",
        "greatest_ring": "(game, place)",
        "potentials_for": "(game, place)",
        "shows_no_greater": "(game, place, mean, potentials)",
    },
    "meanhold.stores": {
        "least_stores": "(game)",
        "stores_for": "(game, steps)",
        "is_enough": "(game, stores)",
        "boxed_stores": "(game, size)",
        "keeping": "(game)",
    },
    "meanhold.surely": {
        "against_us": "(game)",
        "for_us": "(game)",
        "sure_gains": "(game)",
        "hoped_gains": "(game)",
        "bands": "(game)",
        "sure_strategy": "(game)",
        "sure_gains_of": "(game, ours)",
        "firm_places": "(game)",
    },
}
CLASSES = ["GainError", "BadSize", "BadNumber", "BadKind", "BadChance", "BadTarget", "NoBranch",
           "NoCircle", "NotRight", "NothingToUndo", "NothingToRedo", "BadEntry"]


class Interface(unittest.TestCase):
    def test_functions_stand_in_their_files_with_their_arguments(self):
        for name, functions in SIGNATURES.items():
            module = importlib.import_module(name)
            for word, arguments in functions.items():
                function = getattr(module, word)
                self.assertTrue(inspect.isfunction(function))
                self.assertEqual(function.__module__, name)
                self.assertEqual(str(inspect.signature(function)), arguments, word)

    def test_error_classes_stand_in_their_file(self):
        module = importlib.import_module("meanhold.errors")
        for word in CLASSES:
            self.assertTrue(inspect.isclass(getattr(module, word)))
            self.assertEqual(getattr(module, word).__module__, "meanhold.errors")
