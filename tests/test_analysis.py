import unittest
from itertools import product

from counted import drawn, needed_by_search
from fewspans.analysis import core_targets, essential_targets, growth_counts, is_free
from fewspans.blocks import find_blocks
from fewspans.solving import count_needed
from samples import LAST, MOVES, all_moved, intervals_up_to, points, subsets
from timed import Timed

T = ((0, 1), (0, 3), (1, 4), (3, 4))

# All targets over four positions, some over five, and some of up to 24 targets over eight.
SMALL = tuple(subsets(intervals_up_to(3), 4))
DRAWN = tuple(drawn(number, 4, 9, 0)[0] for number in range(60))
WIDE = tuple(drawn(number, 7, 24, 0)[0] for number in range(80))


def others(targets, target):
    return tuple(other for other in targets if other != target)


def essential_by(count, targets):
    return tuple(target for target in targets if count(others(targets, target), ()) < count(targets, ()))


def core_by(count, targets):
    left = targets
    for target in targets:
        if count(others(left, target), ()) == count(left, ()):
            left = others(left, target)
    return left


def free_by(count, targets, interval):
    return count(tuple(sorted({*targets, interval})), ()) == count(targets, ())


class DocumentExamples(Timed):
    def test_essential_targets(self):
        result = [essential_targets(((0, 0), (0, 1))), essential_targets(T)]
        self.assertEqual(repr(result), "[((0, 0), (0, 1)), ()]")

    def test_core_targets(self):
        self.assertEqual(repr(core_targets(T)), "((0, 3), (1, 4), (3, 4))")

    def test_is_free(self):
        self.assertEqual(repr([is_free(T, (0, 4)), is_free(T, (2, 2))]), "[True, False]")

    def test_growth_counts(self):
        self.assertEqual(repr(growth_counts(T)), "(0, 1, 2, 3, 3)")


class Definitions(Timed):
    def check(self, count, targets):
        with self.subTest(targets=targets):
            self.assertEqual(repr(essential_targets(targets)), repr(essential_by(count, targets)))
            self.assertEqual(repr(core_targets(targets)), repr(core_by(count, targets)))
            grown = tuple(count(targets[:k], ()) for k in range(len(targets) + 1))
            self.assertEqual(repr(growth_counts(targets)), repr(grown))
            self.assertEqual(len(core_targets(targets)), count(targets, ()))

    def test_small_by_search(self):
        for targets in SMALL + DRAWN:
            self.check(needed_by_search, targets)

    def test_wide_with_count_needed(self):
        for targets in WIDE:
            self.check(count_needed, targets)

    def test_moved(self):
        for move, targets in product(MOVES.values(), DRAWN + WIDE[:20]):
            moved = all_moved(move, targets)
            self.check(count_needed, moved)
            self.assertEqual(essential_targets(moved), all_moved(move, essential_targets(targets)))
            self.assertEqual(core_targets(moved), all_moved(move, core_targets(targets)))

    def test_core_is_as_large_as_what_is_needed(self):
        for targets in subsets(intervals_up_to(3), 10):
            self.assertEqual(len(core_targets(targets)), count_needed(targets, ()))

    def test_growth_rises_by_one_at_most(self):
        for targets in SMALL + WIDE:
            counts = growth_counts(targets)
            self.assertEqual(len(counts), len(targets) + 1)
            self.assertLessEqual({after - before for before, after in zip(counts, counts[1:])}, {0, 1})

    def test_no_targets(self):
        self.assertEqual(repr(essential_targets(())), "()")
        self.assertEqual(repr(core_targets(())), "()")
        self.assertEqual(repr(growth_counts(())), "(0,)")

    def test_one_target(self):
        for target in ((0, 0), (0, LAST), (5, 9), (LAST, LAST)):
            self.assertEqual(essential_targets((target,)), (target,))
            self.assertEqual(core_targets((target,)), (target,))
            self.assertEqual(growth_counts((target,)), (0, 1))

    def test_most_targets(self):
        targets = intervals_up_to(7)[:24]
        self.assertEqual(len(targets), 24)
        self.check(count_needed, targets)
        self.check(count_needed, intervals_up_to(7)[12:])


class IsFree(Timed):
    def check(self, count, targets, interval):
        with self.subTest(targets=targets, interval=interval):
            self.assertIs(is_free(targets, interval), free_by(count, targets, interval))

    def test_small_by_search(self):
        for targets, interval in product(SMALL[::3] + DRAWN[:20], intervals_up_to(4)):
            self.check(needed_by_search, targets, interval)

    def test_wide_with_count_needed(self):
        for targets, interval in product(WIDE[:30], intervals_up_to(7)):
            if len(targets) < 24:
                self.check(count_needed, targets, interval)

    def test_interval_is_a_target(self):
        for targets in SMALL + DRAWN + WIDE:
            for interval in targets:
                self.assertIs(is_free(targets, interval), True)

    def test_most_targets_contain_the_interval(self):
        for targets in (intervals_up_to(7)[:24], intervals_up_to(7)[12:]):
            self.assertEqual(len(targets), 24)
            for interval in targets:
                self.assertIs(is_free(targets, interval), True)

    def test_one_less_than_most_targets(self):
        targets = intervals_up_to(7)[:23]
        for interval in intervals_up_to(7):
            self.check(count_needed, targets, interval)

    def test_no_targets(self):
        for interval in ((0, 0), (0, LAST), (LAST, LAST)):
            self.assertIs(is_free((), interval), False)

    def test_edges_of_the_positions(self):
        targets = ((0, LAST - 1), (LAST, LAST))
        self.assertIs(is_free(targets, (0, LAST)), True)
        self.assertIs(is_free(targets, (0, 0)), False)
        self.assertIs(is_free(targets, (1, LAST)), False)
        self.assertIs(is_free(targets, (LAST - 1, LAST)), False)
        self.assertIs(is_free(((0, LAST),), (1, LAST)), False)


class Widths(Timed):
    """TooWide, at just eight and just nine blocks."""

    def test_eight_blocks(self):
        targets = points(8)
        self.assertEqual(essential_targets(targets), targets)
        self.assertEqual(core_targets(targets), targets)
        self.assertEqual(growth_counts(targets), tuple(range(9)))
        self.assertIs(is_free(targets, (0, 7)), True)
        self.assertIs(is_free(targets, (3, 3)), True)

    def test_nine_blocks(self):
        for targets in (points(9), points(24), tuple((k, LAST - k) for k in range(5)), points(8) + ((20, LAST),)):
            self.assertGreaterEqual(len(find_blocks(targets)), 9)
            for function in (essential_targets, core_targets, growth_counts):
                self.check_too_wide(function, targets)
            for interval in (targets[0], targets[-1], (0, LAST), (LAST, LAST)):
                self.check_too_wide(is_free, targets, interval)

    def test_the_interval_counts_for_is_free(self):
        self.check_too_wide(is_free, points(8), (8, 8))
        self.check_too_wide(is_free, points(8), (7, 8))
        self.check_too_wide(is_free, points(8), (LAST, LAST))
        self.check_too_wide(is_free, ((0, 9), (2, 7), (3, 6), (4, 5)), (1, 8))
        self.assertIs(is_free(points(7), (7, 7)), False)
        self.assertIs(is_free(points(7), (7, LAST)), False)


class EqualCalls(Timed):
    def test_equal_results(self):
        calls = (
            (essential_targets, (T,)), (core_targets, (T,)), (growth_counts, (T,)), (is_free, (T, (0, 4))),
        )
        self.check_equal_calls(calls)


if __name__ == "__main__":
    unittest.main()
