import unittest
from itertools import combinations, product

from counted import (
    correct_solution, drawn, jointly_served, most_independent, needed_by_search, open_by_count, served,
)
from fewspans.blocks import find_blocks
from fewspans.errors import TooWide
from fewspans.generating import find_missing
from fewspans.solving import count_needed, helpful_interval, helps, solution_holds, solve, widen
from samples import (
    LAST, MOVES, NO_TUPLES, all_moved, counted_blocks, intervals_up_to, parts_replaced, points, subsets,
)
from timed import Timed

T = ((0, 1), (0, 3), (1, 4), (3, 4))

# Pairs of targets and pieces: all of the shortest intervals, few of longer ones, and some that were drawn.
SHORT = tuple(product(subsets(intervals_up_to(2), 6), repeat=2))
FEW = tuple(product(subsets(intervals_up_to(3), 3), subsets(intervals_up_to(3), 1)))
DRAWN = tuple(drawn(number, 4, 7, 4) for number in range(150))
# Up to eight positions, so at most eight blocks.
WIDE = tuple(drawn(number, 7, 24, 30 if number % 3 == 0 else 4) for number in range(240))


class DocumentExamples(Timed):
    def test_count_needed(self):
        self.assertEqual(repr([count_needed(T, ()), count_needed(T, ((1, 3),))]), "[3, 2]")

    def test_solve(self):
        self.assertIs(solution_holds(T, (), solve(T, ())), True)

    def test_solution_holds(self):
        added = ((0, 1), (1, 3), (3, 4))
        self.assertIs(solution_holds(T, (), (added, ((0, (0, 1)), (2, (0, 3)), (4, (3, 4))))), True)

    def test_helps(self):
        self.assertEqual(repr([helps(T, (), (1, 3)), helps(T, (), (0, 4))]), "[True, False]")

    def test_helpful_interval(self):
        self.assertIs(helpful_interval(((0, 1),), ((0, 1),)), None)

    def test_widen(self):
        self.assertEqual(repr(widen(T, (), (2, 2))), "(1, 3)")


class CountNeeded(Timed):
    def check(self, targets, pieces):
        with self.subTest(targets=targets, pieces=pieces):
            needed = count_needed(targets, pieces)
            self.assertIs(type(needed), int)
            self.assertEqual(needed, needed_by_search(targets, pieces))
            self.assertEqual(needed, most_independent(targets, pieces))

    def test_short(self):
        for targets, pieces in SHORT:
            self.check(targets, pieces)

    def test_few(self):
        for targets, pieces in FEW:
            self.check(targets, pieces)

    def test_drawn(self):
        for targets, pieces in DRAWN:
            self.check(targets, pieces)

    def test_all_targets_without_pieces(self):
        for targets in subsets(intervals_up_to(3), 10):
            with self.subTest(targets=targets):
                self.assertEqual(count_needed(targets, ()), needed_by_search(targets, ()))

    def test_moved(self):
        for how, move in MOVES.items():
            for targets, pieces in FEW[::3] + DRAWN[:40] + WIDE[:40]:
                with self.subTest(how, targets=targets, pieces=pieces):
                    moved = count_needed(all_moved(move, targets), all_moved(move, pieces))
                    self.assertEqual(moved, count_needed(targets, pieces))

    def test_one_more_piece(self):
        for targets, pieces in DRAWN[:40] + WIDE[:25]:
            needed = count_needed(targets, pieces)
            drops = {needed - count_needed(targets, tuple(sorted({*pieces, piece}))) for piece in intervals_up_to(7)
                     if len(find_blocks(targets + pieces + (piece,))) <= 8}
            self.assertLessEqual(drops, {0, 1})
            self.assertIs(1 in drops, needed > 0)

    def test_one_more_target(self):
        for targets, pieces in DRAWN[:40] + WIDE[:25]:
            needed = count_needed(targets, pieces)
            for target in intervals_up_to(7):
                if len(find_blocks(targets + pieces + (target,))) <= 8:
                    risen = count_needed(tuple(sorted({*targets, target})), pieces) - needed
                    self.assertIn(risen, (0, 1))

    def test_nothing_to_do(self):
        self.assertEqual(repr(count_needed((), ())), "0")
        self.assertEqual(repr(count_needed((), ((0, 3), (2, LAST)))), "0")
        self.assertEqual(repr(count_needed(T, T)), "0")
        self.assertEqual(repr(count_needed(((0, LAST),), ((0, 7), (8, LAST)))), "0")

    def test_one_target(self):
        for target in ((0, 0), (0, 1), (0, LAST), (LAST, LAST)):
            self.assertEqual(count_needed((target,), ()), 1)
            self.assertEqual(count_needed((target,), (target,)), 0)


class Solve(Timed):
    def check_ends(self, intervals, blocks):
        lows, highs = [low for low, high in blocks], [high for low, high in blocks]
        for low, high in intervals:
            self.assertIn(low, lows)
            self.assertIn(high, highs)

    def check(self, targets, pieces):
        """Check without the program that both sides are correct, so that neither can be larger or smaller."""
        with self.subTest(targets=targets, pieces=pieces):
            solution = solve(targets, pieces)
            self.assertTrue(correct_solution(targets, pieces, solution), solution)
            self.assertIs(solution_holds(targets, pieces, solution), True)
            self.assertEqual(count_needed(targets, pieces), len(solution[0]))
            self.check_ends(solution[0], counted_blocks(targets + pieces))

    def test_short(self):
        for targets, pieces in SHORT:
            self.check(targets, pieces)

    def test_few_and_drawn(self):
        for targets, pieces in FEW + DRAWN:
            self.check(targets, pieces)

    def test_up_to_eight_blocks(self):
        for targets, pieces in WIDE:
            self.check(targets, pieces)

    def test_longer_blocks(self):
        starts = (0, 2, 3, 7, 8, 11, 12, 15)
        ends = (1, 2, 6, 7, 10, 11, 14, 20)
        for rows in WIDE[:120]:
            targets, pieces = [tuple((starts[low], ends[high]) for low, high in intervals) for intervals in rows]
            self.check(targets, pieces)

    def test_most_needed(self):
        shapes = [points(8), tuple((k, k + 3) for k in range(5)), tuple((k, 7 - k) for k in range(4))]
        shapes += [tuple((k, k + length) for k in range(8 - length)) for length in range(7)]
        shapes += [tuple((low, high) for low, high in intervals_up_to(7) if high - low in (2, 3, 4, 6))]
        shapes += [intervals_up_to(7)[12:], intervals_up_to(7)[:24], intervals_up_to(7)[::3] + ((7, 7),)]
        for targets in shapes:
            self.assertLessEqual(len(targets), 24)
            self.check(tuple(sorted(set(targets))), ())

    def test_exact_results(self):
        self.assertEqual(repr(solve((), ())), "((), ())")
        self.assertEqual(repr(solve((), ((0, 3),))), "((), ())")
        self.assertEqual(repr(solve(T, T)), "((), ())")
        self.assertEqual(solve(((0, LAST),), ()), (((0, LAST),), ((0, (0, LAST)),)))
        self.assertEqual(solve(((LAST, LAST),), ()), (((LAST, LAST),), ((LAST, (LAST, LAST)),)))
        self.assertEqual(solve(((0, 0), (LAST, LAST)), ())[0], ((0, 0), (LAST, LAST)))

    def test_moved(self):
        for how, move in MOVES.items():
            for targets, pieces in FEW[::5] + DRAWN[:40] + WIDE[:40]:
                moved = (all_moved(move, targets), all_moved(move, pieces))
                with self.subTest(how, targets=targets, pieces=pieces):
                    added, witnesses = solve(*moved)
                    self.assertIs(solution_holds(*moved, (added, witnesses)), True)
                    self.assertEqual(len(added), count_needed(targets, pieces))
                    self.check_ends(added, find_blocks(moved[0] + moved[1]))
                    self.assertIs(find_missing(moved[0], moved[1] + added), None)
                    self.assertFalse(any(jointly_served(*pair) for pair in combinations(witnesses, 2)))
                    self.assertFalse(any(served(piece, demand) for piece in moved[1] for demand in witnesses))

    def test_both_sides_are_exact(self):
        for targets, pieces in DRAWN:
            added, witnesses = solve(targets, pieces)
            for fewer in combinations(added, len(added) - 1) if added else ():
                self.assertFalse(solution_holds(targets, pieces, (fewer, witnesses[1:])))


class Widths(Timed):
    """TooWide, at just eight and just nine blocks."""

    def check_nine_blocks(self, targets, pieces):
        self.assertEqual(len(find_blocks(targets + pieces)), 9)
        for function in (count_needed, solve, helpful_interval):
            self.check_too_wide(function, targets, pieces)
        for interval in ((0, 0), (0, LAST), *targets[:1], *pieces[:1]):
            self.check_too_wide(helps, targets, pieces, interval)

    def test_eight_blocks(self):
        for targets, pieces in ((points(8), ()), (points(5), points(3, 20)), ((), points(8)), (points(8), points(8))):
            self.assertEqual(len(find_blocks(targets + pieces)), 8)
            needed = len([target for target in targets if target not in pieces])
            self.assertEqual(count_needed(targets, pieces), needed)
            self.assertEqual(len(solve(targets, pieces)[0]), needed)
            self.assertIs(helpful_interval(targets, pieces) is None, needed == 0)
            for interval in targets + pieces:
                self.assertIs(helps(targets, pieces, interval), interval in targets and interval not in pieces)

    def test_nine_blocks(self):
        self.check_nine_blocks(points(9), ())
        self.check_nine_blocks((), points(9))
        self.check_nine_blocks(points(5), points(4, 20))
        self.check_nine_blocks(points(9), points(9))
        self.check_nine_blocks(tuple((k, LAST - k) for k in range(5)), ())

    def test_pieces_inside_no_target_count(self):
        self.check_nine_blocks(points(8), ((LAST, LAST),))
        self.check_nine_blocks(((0, 7),), points(8, 8))
        self.check_nine_blocks(points(7), ((0, LAST), (LAST - 5, LAST)))

    def test_touching_intervals_are_blocks_of_their_own(self):
        self.check_nine_blocks(tuple((10 * k, 10 * k + 9) for k in range(9)), ())

    def test_the_interval_counts_for_helps(self):
        targets = points(8)
        self.assertIs(helps(targets, (), (0, 7)), False)
        self.assertIs(helps(targets, (), (3, 3)), True)
        self.check_too_wide(helps, targets, (), (8, 8))
        self.check_too_wide(helps, targets, (), (7, 8))
        self.check_too_wide(helps, targets, (), (LAST, LAST))
        self.assertIs(helps(((0, 8), (2, 7), (4, 6), (5, 5)), ((0, 7),), (0, 0)), False)
        self.check_too_wide(helps, ((0, 8), (2, 7), (4, 6), (5, 5)), ((0, 7),), (1, 2))
        self.assertIs(helps(points(7), (), (7, 7)), False)
        self.check_too_wide(helps, points(7), ((0, 7),), (7, 8))

    def test_functions_that_do_not_raise_it(self):
        targets = points(24)
        witnesses = tuple((low, (low, low)) for low, high in targets)
        self.assertIs(solution_holds(targets, (), (targets, witnesses)), True)
        self.assertIs(solution_holds(targets, (), (targets[1:], witnesses[1:])), False)
        self.assertIs(solution_holds(targets, points(30), ((), ())), True)
        nest = tuple((k, LAST - k) for k in range(24))
        witnesses = tuple((k, (k, LAST - k)) for k in range(24))
        self.assertIs(solution_holds(nest, (), (nest, witnesses)), True)
        self.assertEqual(widen(nest, (), (30, 40)), (23, LAST - 23))
        self.assertEqual(widen(nest, nest[10:], (30, 40)), (30, 40))
        self.assertEqual(widen(nest, points(30, 40), (5, 40)), (5, LAST - 5))


PARTS = (
    None, True, False, 0, 1, 3, -1, LAST + 1, 10 ** 29, "", "0-1", (), [], {}, (0, 1), (1, 0), (0, True), [0, 1], (0, 9),
    (0, (0, 3)), (2, (1, 4)), (9, (0, 9)), (0, [0, 3]), (0, (0, True)), (0,), (0, 1, 2), (None, None),
    ((0, 1), (1, 3)), ((0, (0, 1)),),
)


class SolutionHolds(Timed):
    def check(self, targets, pieces, value):
        with self.subTest(targets=targets, pieces=pieces, value=repr(value)[:90]):
            self.assertIs(solution_holds(targets, pieces, value), correct_solution(targets, pieces, value))

    def check_replaced(self, targets, pieces):
        solution = solve(targets, pieces)
        self.check(targets, pieces, solution)
        for value in parts_replaced(solution, PARTS):
            self.check(targets, pieces, value)

    def test_parts_replaced(self):
        self.check_replaced(T, ())
        self.check_replaced(T, ((1, 3),))
        self.check_replaced((), ())
        self.check_replaced((), ((0, 1),))
        self.check_replaced(((0, 1),), ())

    def test_parts_replaced_in_drawn_ones(self):
        for targets, pieces in DRAWN[::8]:
            self.check_replaced(targets, pieces)

    def test_any_values(self):
        values = NO_TUPLES + ((), ((),), ((), (), ()), ([], []), ((), []), ([], ()), (None, None), ((), None))
        for targets, value in product(((), ((0, 1),)), values):
            self.check(targets, (), value)
            for other in ((), ((0, 1),)):
                self.check(targets, (), (value, other))
                self.check(targets, (), (other, value))

    def test_many_items(self):
        added = points(450)
        self.assertIs(solution_holds(T, (), (added, added)), False)
        self.assertIs(solution_holds((), (), (added, tuple((k, (k, k)) for k in range(450)))), False)

    def test_every_pair_of_small_sets(self):
        targets = ((0, 1), (0, 2), (1, 2))
        demands = sorted(open_by_count(targets, ()))
        for many in range(4):
            for added, witnesses in product(combinations(intervals_up_to(2), many), combinations(demands, many)):
                self.check(targets, (), (added, witnesses))

    def test_witnesses_at_any_position(self):
        for position in (0, 1, 500, LAST):
            self.assertIs(solution_holds(((0, LAST),), (), (((0, LAST),), ((position, (0, LAST)),))), True)
        pieces = ((0, 5), (9, LAST))
        for position in range(4, 12):
            value = (((6, 8),), ((position, (0, LAST)),))
            self.assertIs(solution_holds(((0, LAST),), pieces, value), 6 <= position <= 8)

    def test_added_intervals_need_no_block_borders(self):
        self.assertIs(solution_holds(((0, 9),), ((0, 3), (7, 9)), (((2, 8),), ((5, (0, 9)),))), True)
        self.assertIs(solution_holds(((0, 9),), ((0, 3), (7, 9)), (((2, 5),), ((5, (0, 9)),))), False)

    def test_demands_of_other_targets(self):
        self.assertIs(solution_holds(((0, 9),), (), (((0, 9),), ((5, (0, 9)),))), True)
        self.assertIs(solution_holds(((0, 9),), (), (((0, 9),), ((5, (0, 8)),))), False)

    def test_true_is_not_one(self):
        self.assertIs(solution_holds(((0, 1),), (), (((0, 1),), ((1, (0, 1)),))), True)
        for value in (
            (((0, True),), ((1, (0, 1)),)), (((False, 1),), ((1, (0, 1)),)), (((0, 1),), ((True, (0, 1)),)),
            (((0, 1),), ((1, (0, True)),)), (((0, 1),), ((1, (False, 1)),)),
        ):
            self.assertIs(solution_holds(((0, 1),), (), value), False)


class Helping(Timed):
    """helps and helpful_interval."""

    def test_helps(self):
        for (targets, pieces), interval in product(SHORT[::7] + FEW[::11] + DRAWN[:25], intervals_up_to(5)):
            if len(counted_blocks(targets + pieces + (interval,))) <= 8:
                with self.subTest(targets=targets, pieces=pieces, interval=interval):
                    fewer = needed_by_search(targets, pieces + (interval,))
                    self.assertIs(helps(targets, pieces, interval), fewer < needed_by_search(targets, pieces))

    def test_interval_is_a_piece(self):
        for targets, pieces in DRAWN + WIDE:
            for interval in pieces:
                self.assertIs(helps(targets, pieces, interval), False)

    def test_most_pieces(self):
        pieces = intervals_up_to(7)[6:]
        self.assertEqual(len(pieces), 30)
        targets = ((0, 0), (0, 1), (1, 1))
        self.assertEqual(count_needed(targets, pieces), 1)
        self.assertIs(helps(targets, pieces, (0, 0)), True)
        for interval in ((0, 1), (0, 4), (1, 1), (0, 7), (6, 7)):
            self.assertIs(helps(targets, pieces, interval), False)
        self.assertEqual(helpful_interval(targets, pieces), (0, 0))

    def check_helpful(self, targets, pieces, blocks):
        with self.subTest(targets=targets, pieces=pieces):
            interval = helpful_interval(targets, pieces)
            needed = count_needed(targets, pieces)
            self.assertIs(interval is None, needed == 0)
            if interval is not None:
                self.assertIs(helps(targets, pieces, interval), True)
                self.assertEqual(count_needed(targets, tuple(sorted(pieces + (interval,)))), needed - 1)
                self.assertIn(interval[0], [low for low, high in blocks])
                self.assertIn(interval[1], [high for low, high in blocks])

    def test_helpful_interval(self):
        for targets, pieces in SHORT + FEW + DRAWN + WIDE:
            self.check_helpful(targets, pieces, counted_blocks(targets + pieces))

    def test_helpful_interval_moved(self):
        for move, (targets, pieces) in product(MOVES.values(), DRAWN[:60] + WIDE[:30]):
            moved = (all_moved(move, targets), all_moved(move, pieces))
            self.check_helpful(*moved, find_blocks(moved[0] + moved[1]))

    def test_helps_at_the_edges(self):
        self.assertIs(helps(((0, LAST),), (), (0, LAST)), True)
        self.assertIs(helps(((0, LAST),), (), (0, LAST - 1)), False)
        self.assertIs(helps(((0, LAST),), ((LAST, LAST),), (0, LAST - 1)), True)
        self.assertIs(helps(((0, LAST),), ((5, 9),), (0, 4)), False)
        self.assertIs(helps((), (), (0, 4)), False)


class Widen(Timed):
    def expected(self, targets, pieces, interval, last):
        """Find the widest of all intervals that serve what the given one serves, position by position."""
        demands = [demand for demand in open_by_count(targets, pieces) if served(interval, demand)]
        if not demands:
            return interval
        serving = [piece for piece in intervals_up_to(last) if all(served(piece, demand) for demand in demands)]
        widest = (min(low for low, high in serving), max(high for low, high in serving))
        self.assertIn(widest, serving)
        return widest

    def check(self, targets, pieces, interval):
        with self.subTest(targets=targets, pieces=pieces, interval=interval):
            expected = self.expected(targets, pieces, interval, 8)
            self.assertEqual(repr(widen(targets, pieces, interval)), repr(expected))

    def test_against_definition(self):
        for (targets, pieces), interval in product(SHORT[::3], intervals_up_to(3)):
            self.check(targets, pieces, interval)

    def test_few_and_drawn(self):
        for (targets, pieces), interval in product(FEW[::9] + DRAWN[:40], intervals_up_to(5)):
            self.check(targets, pieces, interval)

    def test_wide(self):
        for (targets, pieces), interval in product(WIDE[:20], intervals_up_to(8)[::2]):
            self.check(targets, pieces, interval)

    def test_nothing_served(self):
        for interval in ((0, 0), (0, LAST), (LAST, LAST), (3, 900)):
            self.assertEqual(widen((), (), interval), interval)
            self.assertEqual(widen((interval,), (interval,), interval), interval)
        self.assertEqual(widen(((0, 9),), (), (5, 10)), (5, 10))
        self.assertEqual(widen(((0, 9),), ((4, 8),), (5, 7)), (5, 7))

    def test_long(self):
        self.assertEqual(widen(((0, LAST), (3, LAST - 3)), (), (500, 500)), (3, LAST - 3))
        self.assertEqual(widen(((0, LAST), (3, LAST - 3)), (), (2, 500)), (0, LAST))
        self.assertEqual(widen(((0, LAST), (3, LAST - 3)), ((3, 500),), (500, 500)), (500, 500))
        self.assertEqual(widen(((0, LAST), (3, LAST - 3)), ((3, 499), (501, LAST)), (400, 600)), (3, LAST - 3))
        self.assertEqual(widen(((0, LAST), (3, LAST - 3)), ((3, 500), (501, LAST)), (400, 600)), (3, LAST - 3))
        self.assertEqual(widen(((0, LAST), (3, LAST - 3)), ((3, 500), (501, LAST - 3)), (400, 600)), (400, 600))
        self.assertEqual(widen(((0, LAST), (3, LAST - 3)), ((2, 500), (501, LAST)), (400, 600)), (3, LAST - 3))

    def test_what_is_served_stays_served(self):
        for (targets, pieces), interval in product(WIDE[:30], intervals_up_to(7)[::3]):
            wide = widen(targets, pieces, interval)
            for demand in open_by_count(targets, pieces):
                if served(interval, demand):
                    self.assertTrue(served(wide, demand))


class EqualCalls(Timed):
    def test_equal_results(self):
        solution = solve(T, ((1, 3),))
        calls = (
            (count_needed, (T, ((1, 3),))), (solve, (T, ((1, 3),))), (solution_holds, (T, ((1, 3),), solution)),
            (solution_holds, (T, (), [list(solution[0]), {"a": [solution]}])), (helps, (T, (), (1, 3))),
            (solution_holds, (T, (), ([], [(0, [0, 1])]))), (helpful_interval, (T, ())), (widen, (T, (), (2, 2))),
        )
        self.check_equal_calls(calls)

    def test_equal_results_of_large_calls(self):
        self.check_equal_calls([(function, pair) for function in (solve, helpful_interval) for pair in WIDE[:40]])

    def test_an_error_changes_nothing(self):
        for function in (count_needed, solve, helpful_interval):
            before = function(T, ())
            with self.assertRaises(TooWide):
                function(points(9), ())
            self.assertEqual(function(T, ()), before)


if __name__ == "__main__":
    unittest.main()
