"""The functions and methods of the document's interface, with their arguments."""

import inspect
import unittest
from importlib import import_module

FUNCTIONS = {
    "intervals": (
        "is_interval(value)", "is_targets(value)", "is_pieces(value)", "targets_error(value)",
        "contains(outer, inner)", "intersect(first, second)", "hull_of(first, second)",
    ),
    "blocks": ("find_blocks(intervals)", "block_index(intervals, position)", "compress(intervals)"),
    "demands": (
        "serves(piece, demand)", "conflict(first, second)", "joint_piece(demands)", "is_independent(value)",
        "all_demands(targets)", "open_demands(targets, pieces)", "shadow_target(targets, demand)",
    ),
    "generating": (
        "generates(pieces, target)", "first_gap(pieces, target)", "find_missing(targets, pieces)",
        "cover_chain(pieces, target)", "removable_pieces(targets, pieces)", "prune_pieces(targets, pieces)",
        "redundant_targets(targets)", "reduce_targets(targets)",
    ),
    "solving": (
        "count_needed(targets, pieces)", "solve(targets, pieces)", "solution_holds(targets, pieces, value)",
        "helps(targets, pieces, interval)", "helpful_interval(targets, pieces)", "widen(targets, pieces, interval)",
    ),
    "transforms": (
        "reflect_targets(targets, last)", "shift_targets(targets, by)", "remove_position(targets, position)",
        "double_position(targets, position)", "join_targets(first, second, gap)", "window_targets(targets, interval)",
    ),
    "boards": (
        "is_board(value)", "is_rectangle(board, value)", "are_separate(board, first, second)", "board_targets(board)",
        "cover_board(board)", "cover_holds(board, value)",
    ),
    "analysis": (
        "essential_targets(targets)", "core_targets(targets)", "is_free(targets, interval)", "growth_counts(targets)",
    ),
    "texts": ("interval_text(interval)", "intervals_text(intervals)", "parse_intervals(text)"),
}

METHODS = {
    ("plans", "Plan"): (
        "__init__(self, targets, pieces)", "add_target(self, interval)", "add_piece(self, interval)",
        "remove_target(self, interval)", "remove_piece(self, interval)", "undo(self)",
        "apply(self, edits, *, check=None)", "targets(self, *, version=None)", "pieces(self, *, version=None)",
        "needed(self, *, version=None)", "solution(self, *, version=None)", "missing(self, *, version=None)",
        "edits(self)", "changes(self)", "__len__(self)", "__str__(self)", "__eq__(self, other)",
    ),
    ("shells", "Shell"): ("__init__(self, plan)", "execute(self, line)"),
}


class Interface(unittest.TestCase):
    def test_functions(self):
        for module_name, functions in FUNCTIONS.items():
            module = import_module("fewspans." + module_name)
            for written in functions:
                with self.subTest(written, module=module_name):
                    function = getattr(module, written.partition("(")[0])
                    self.assertEqual(function.__module__, module.__name__)
                    self.assertEqual(function.__name__ + str(inspect.signature(function)), written)

    def test_methods_of_the_class_itself(self):
        for (module_name, class_name), methods in METHODS.items():
            owner = getattr(import_module("fewspans." + module_name), class_name)
            self.assertEqual(owner.__module__, "fewspans." + module_name)
            for written in methods:
                with self.subTest(written, owner=class_name):
                    method = vars(owner)[written.partition("(")[0]]
                    self.assertEqual(method.__name__ + str(inspect.signature(method)), written)


if __name__ == "__main__":
    unittest.main()
