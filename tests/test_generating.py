import unittest
from itertools import combinations, permutations, product

from fewspans.errors import NotGenerated, SpanError
from fewspans.generating import (
    cover_chain, find_missing, first_gap, generates, prune_pieces, reduce_targets, redundant_targets,
    removable_pieces,
)
from counted import all_generated, left_out, pieces_within
from samples import LAST, MOVES, all_moved, intervals_up_to, scattered, subsets
from timed import Timed


def gap_by_count(pieces, target):
    return min(left_out(pieces, target), default=None)


def missing_by_count(targets, pieces):
    gaps = [(gap_by_count(pieces, target), target) for target in targets]
    return next((demand for demand in gaps if demand[0] is not None), None)


def chain_by_count(pieces, target):
    """Select the pieces as the document describes it, position by position."""
    inside = pieces_within(pieces, target)
    chain = []
    while left_out(chain, target):
        at = left_out(chain, target)[0]
        reaching = [(a, b) for a, b in inside if a <= at <= b]
        if not reaching:
            return None
        farthest = max(b for a, b in reaching)
        chain.append((min(a for a, b in reaching if b == farthest), farthest))
    return tuple(chain)


def others(items, index):
    return items[:index] + items[index + 1:]


def removable_by_count(targets, pieces):
    return tuple(piece for at, piece in enumerate(pieces) if all_generated(targets, others(pieces, at)))


def pruned_by_count(targets, pieces):
    left = list(pieces)
    for piece in pieces:
        left.remove(piece)
        if not all_generated(targets, left):
            left.append(piece)
    return tuple(sorted(left))


def redundant_by_count(targets):
    return tuple(target for at, target in enumerate(targets) if all_generated((target,), others(targets, at)))


# Pairs of targets and pieces: all of the shortest intervals, and few of somewhat longer ones.
SHORT = tuple(product(subsets(intervals_up_to(2), 6), repeat=2))
FEW = tuple(product(subsets(intervals_up_to(3), 2), repeat=2))


def large_pairs():
    """Make pairs of up to 24 targets and 30 pieces, most of which generate all targets."""
    for step, length, last in product((3, 5, 7), (1, 2, 5), (20, 40)):
        targets = tuple(sorted(set(scattered(40, step, length, last))))[:24]
        cut = [(low, (low + high) // 2) for low, high in targets] + [((low + high) // 2, high) for low, high in targets]
        yield targets, tuple(sorted(set(targets + scattered(30, length, step, last))))[:30]
        yield targets[:15], tuple(sorted(set(cut[:15] + cut[len(targets):len(targets) + 15])))
        yield targets[:12], tuple(sorted(set(targets[:12] + scattered(18, step, length, last))))


class DocumentExamples(Timed):
    def test_generates(self):
        self.assertEqual(repr(generates(((0, 1), (1, 3), (2, 9)), (0, 3))), "True")

    def test_first_gap(self):
        self.assertEqual(repr(first_gap(((0, 0), (2, 9)), (0, 3))), "1")

    def test_find_missing(self):
        self.assertEqual(repr(find_missing(((0, 1), (0, 3)), ((0, 1),))), "(2, (0, 3))")

    def test_cover_chain(self):
        self.assertEqual(repr(cover_chain(((0, 1), (0, 2), (1, 3), (3, 3)), (0, 3))), "((0, 2), (1, 3))")

    def test_removable_pieces(self):
        self.assertEqual(repr(removable_pieces(((0, 3),), ((0, 1), (1, 2), (2, 3)))), "((1, 2),)")

    def test_prune_pieces(self):
        self.assertEqual(repr(prune_pieces(((0, 3),), ((0, 1), (0, 3), (2, 3)))), "((0, 3),)")

    def test_redundant_targets(self):
        self.assertEqual(repr(redundant_targets(((0, 1), (0, 3), (2, 3)))), "((0, 3),)")

    def test_reduce_targets(self):
        self.assertEqual(repr(reduce_targets(((0, 1), (0, 3), (2, 3)))), "((0, 1), (2, 3))")


class OneTarget(Timed):
    """generates, first_gap and cover_chain."""

    def check(self, pieces, target):
        gap = gap_by_count(pieces, target)
        with self.subTest(pieces=pieces, target=target):
            self.assertEqual(repr(first_gap(pieces, target)), repr(gap))
            self.assertIs(generates(pieces, target), gap is None)
            self.assertEqual(repr(cover_chain(pieces, target)), repr(chain_by_count(pieces, target)))

    def test_all_short_pieces(self):
        for pieces, target in product(subsets(intervals_up_to(3), 10), intervals_up_to(3)):
            self.check(pieces, target)

    def test_any_order_with_duplicates(self):
        for pieces, target in product(product(intervals_up_to(3), repeat=3), ((0, 3), (1, 3), (0, 2), (2, 2))):
            self.check(pieces, target)

    def test_every_order(self):
        for pieces in permutations(((0, 1), (0, 4), (1, 2), (2, 6), (3, 5))):
            for target in ((0, 4), (0, 5), (0, 6), (1, 5), (2, 6)):
                self.check(pieces, target)

    def test_many_pieces(self):
        for many, step, length, last in product((30, 59, 60), (3, 5, 7), (1, 2, 5), (12, 40)):
            pieces = scattered(many, step, length, last)
            for given, target in product((pieces, pieces[::-1], tuple(sorted(pieces))), ((0, last), (3, 11), (7, 30))):
                self.check(given, target)

    def test_sixty_pieces_in_a_row(self):
        width = LAST // 60
        pieces = tuple((k * width, (k + 1) * width - 1) for k in range(59)) + ((59 * width, LAST),)
        for given in (pieces, pieces[::-1], pieces[30:] + pieces[:30]):
            self.assertIs(first_gap(given, (0, LAST)), None)
            self.assertIs(generates(given, (0, LAST)), True)
            self.assertEqual(cover_chain(given, (0, LAST)), pieces)
            self.assertEqual(first_gap(given, (0, LAST - 1)), 59 * width)
            self.assertEqual(first_gap(given, (1, LAST)), 1)
            self.assertIs(cover_chain(given, (1, LAST)), None)
        for at, (low, high) in enumerate(pieces):
            left = others(pieces, at)[::-1] + pieces[:1] * (at > 0)
            self.assertEqual(first_gap(left, (0, LAST)), low)
            self.assertIs(generates(left, (0, LAST)), False)
            self.assertIs(cover_chain(left, (0, LAST)), None)

    def test_sixty_equal_pieces(self):
        pieces = ((4, 9),) * 60
        self.assertIs(generates(pieces, (4, 9)), True)
        self.assertEqual(cover_chain(pieces, (4, 9)), ((4, 9),))
        self.assertEqual(first_gap(pieces, (4, 10)), 10)
        self.assertEqual(first_gap(pieces, (3, 9)), 3)
        self.assertEqual(first_gap(pieces, (4, 8)), 4)

    def test_no_pieces(self):
        for low, high in ((0, 0), (0, 3), (5, 9), (0, LAST), (LAST, LAST)):
            self.assertEqual(repr(first_gap((), (low, high))), repr(low))
            self.assertIs(generates((), (low, high)), False)
            self.assertIs(cover_chain((), (low, high)), None)

    def test_target_is_a_piece(self):
        for target in ((0, 0), (0, 3), (5, 9), (0, LAST), (LAST - 1, LAST), (LAST, LAST)):
            for pieces in ((target,), (target, target), ((target[0], target[0]), target, (target[1], target[1]))):
                self.assertIs(first_gap(pieces, target), None)
                self.assertIs(generates(pieces, target), True)
                self.assertEqual(cover_chain(pieces, target), (target,))

    def test_pieces_that_reach_out_of_the_target(self):
        self.assertEqual(first_gap(((0, LAST),), (1, LAST)), 1)
        self.assertEqual(first_gap(((0, LAST),), (0, LAST - 1)), 0)
        self.assertEqual(first_gap(((2, 4), (4, 7)), (2, 6)), 5)
        self.assertEqual(first_gap(((1, 3), (3, 6)), (2, 6)), 2)

    def test_edges_of_the_positions(self):
        self.assertEqual(first_gap(((0, LAST - 1),), (0, LAST)), LAST)
        self.assertEqual(first_gap(((1, LAST),), (0, LAST)), 0)
        self.assertEqual(first_gap(((0, 0), (2, LAST)), (0, LAST)), 1)
        self.assertIs(first_gap(((LAST, LAST), (0, LAST - 1)), (0, LAST)), None)
        self.assertEqual(cover_chain(((LAST, LAST), (0, LAST - 1)), (0, LAST)), ((0, LAST - 1), (LAST, LAST)))
        self.assertEqual(cover_chain(((1, LAST), (0, 0), (0, LAST - 1)), (0, LAST)), ((0, LAST - 1), (1, LAST)))

    def test_moved(self):
        for how, move in MOVES.items():
            for pieces, target in product(subsets(intervals_up_to(3), 3), intervals_up_to(3)):
                gap = gap_by_count(pieces, target)
                chain = chain_by_count(pieces, target)
                moved = all_moved(move, pieces[::-1])
                with self.subTest(how, pieces=pieces, target=target):
                    expected = None if gap is None else move((gap, gap))[0]
                    self.assertEqual(repr(first_gap(moved, move(target))), repr(expected))
                    self.assertIs(generates(moved, move(target)), gap is None)
                    expected = None if chain is None else all_moved(move, chain)
                    self.assertEqual(repr(cover_chain(moved, move(target))), repr(expected))

    def test_smallest_low_end_of_equally_far_pieces(self):
        self.assertEqual(cover_chain(((2, 3), (1, 3), (0, 1), (3, 3)), (0, 3)), ((0, 1), (1, 3)))
        self.assertEqual(cover_chain(((3, 9), (0, 4), (5, 9), (1, 9), (2, 9)), (0, 9)), ((0, 4), (1, 9)))

    def test_no_shorter_selection(self):
        for pieces, target in product(subsets(intervals_up_to(3), 4), intervals_up_to(3)):
            chain = cover_chain(pieces, target)
            if chain is not None:
                shorter = [rows for many in range(len(chain)) for rows in combinations(pieces, many)]
                self.assertFalse(any(all_generated((target,), rows) for rows in shorter), (pieces, target))


class FindMissing(Timed):
    def check(self, targets, pieces):
        with self.subTest(targets=targets, pieces=pieces):
            self.assertEqual(repr(find_missing(targets, pieces)), repr(missing_by_count(targets, pieces)))

    def test_against_count(self):
        for targets, pieces in SHORT + FEW + tuple(large_pairs()):
            self.check(targets, pieces)

    def test_no_targets(self):
        for pieces in ((), ((0, 3),), ((0, 0), (LAST, LAST))):
            self.assertIs(find_missing((), pieces), None)

    def test_no_pieces(self):
        self.assertEqual(find_missing(((2, 5), (3, 3)), ()), (2, (2, 5)))
        self.assertEqual(find_missing(((LAST, LAST),), ()), (LAST, (LAST, LAST)))

    def test_first_target_not_first_position(self):
        self.assertEqual(find_missing(((0, 9), (1, 2)), ((0, 8),)), (9, (0, 9)))
        self.assertEqual(find_missing(((0, 9), (1, 2)), ((0, 8), (9, 9))), (1, (1, 2)))

    def test_moved(self):
        for how, move in MOVES.items():
            for targets, pieces in FEW:
                missing = missing_by_count(targets, pieces)
                if missing is not None:
                    missing = (move((missing[0], missing[0]))[0], move(missing[1]))
                with self.subTest(how, targets=targets, pieces=pieces):
                    result = find_missing(all_moved(move, targets), all_moved(move, pieces))
                    self.assertEqual(repr(result), repr(missing))


class RemovingPieces(Timed):
    """removable_pieces and prune_pieces."""

    def check_raises(self, targets, pieces, demand):
        for function in (removable_pieces, prune_pieces):
            with self.assertRaises(NotGenerated) as context:
                function(targets, pieces)
            self.assertIs(type(context.exception), NotGenerated)
            self.assertIsInstance(context.exception, SpanError)
            self.assertEqual(repr(context.exception.demand), repr(demand))
            self.assertEqual(repr(context.exception.demand), repr(find_missing(targets, pieces)))

    def check(self, targets, pieces):
        missing = missing_by_count(targets, pieces)
        with self.subTest(targets=targets, pieces=pieces):
            if missing is not None:
                self.check_raises(targets, pieces, missing)
                return
            self.assertIs(find_missing(targets, pieces), None)
            self.assertEqual(repr(removable_pieces(targets, pieces)), repr(removable_by_count(targets, pieces)))
            self.assertEqual(repr(prune_pieces(targets, pieces)), repr(pruned_by_count(targets, pieces)))

    def test_against_count(self):
        for targets, pieces in SHORT + FEW:
            self.check(targets, pieces)

    def test_many_pieces_for_one_target(self):
        for target, pieces in product(((0, 3), (1, 3)), subsets(intervals_up_to(3), 10)):
            self.check((target,), pieces)

    def test_large(self):
        results = [missing_by_count(targets, pieces) is None for targets, pieces in large_pairs()]
        self.assertIn(True, results)
        self.assertIn(False, results)
        for targets, pieces in large_pairs():
            self.check(targets, pieces)

    def test_no_targets(self):
        for pieces in ((), ((0, 0),), ((0, 3), (1, 2), (LAST, LAST))):
            self.assertEqual(repr(removable_pieces((), pieces)), repr(pieces))
            self.assertEqual(repr(prune_pieces((), pieces)), "()")

    def test_no_pieces(self):
        self.check_raises(((2, 5),), (), (2, (2, 5)))
        self.check_raises(((0, 0),), (), (0, (0, 0)))
        self.check_raises(((LAST, LAST),), (), (LAST, (LAST, LAST)))

    def test_target_is_a_piece(self):
        for target in ((0, 0), (0, 3), (0, LAST), (LAST, LAST)):
            self.assertEqual(removable_pieces((target,), (target,)), ())
            self.assertEqual(prune_pieces((target,), (target,)), (target,))

    def test_pieces_inside_no_target(self):
        pieces = ((0, 9), (2, 5), (4, 6))
        self.assertEqual(removable_pieces(((2, 5),), pieces), ((0, 9), (4, 6)))
        self.assertEqual(prune_pieces(((2, 5),), pieces), ((2, 5),))

    def test_each_removable_but_not_all(self):
        pieces = ((0, 1), (0, 2), (1, 3), (2, 3))
        self.assertEqual(removable_pieces(((0, 3),), pieces), pieces)
        self.assertEqual(prune_pieces(((0, 3),), pieces), ((0, 2), (2, 3)))

    def test_edges_of_the_positions(self):
        whole = (0, LAST)
        pieces = ((0, 0), (0, LAST - 1), (1, LAST), (LAST, LAST))
        self.assertEqual(removable_pieces((whole,), pieces), pieces)
        self.assertEqual(prune_pieces((whole,), pieces), ((0, LAST - 1), (LAST, LAST)))
        self.check_raises((whole,), ((0, LAST - 1),), (LAST, whole))
        self.check_raises((whole, (LAST, LAST)), (whole,), (LAST, (LAST, LAST)))

    def test_most_pieces(self):
        width = LAST // 30
        pieces = tuple((k * width, (k + 1) * width - 1) for k in range(29)) + ((29 * width, LAST),)
        self.assertEqual(removable_pieces(((0, LAST),), pieces), ())
        self.assertEqual(prune_pieces(((0, LAST),), pieces), pieces)
        self.assertEqual(removable_pieces(((0, LAST), (3 * width, LAST)), pieces), ())
        self.assertEqual(removable_pieces(((3 * width, LAST),), pieces), pieces[:3])
        self.check_raises(((0, LAST),), others(pieces, 17), (17 * width, (0, LAST)))

    def test_moved(self):
        for move, (targets, pieces) in product(MOVES.values(), FEW):
            if all_generated(targets, pieces):
                moved = (all_moved(move, targets), all_moved(move, pieces))
                self.assertEqual(removable_pieces(*moved), all_moved(move, removable_by_count(targets, pieces)))
                self.assertEqual(prune_pieces(*moved), all_moved(move, pruned_by_count(targets, pieces)))


class ReducingTargets(Timed):
    """redundant_targets and reduce_targets."""

    def check(self, targets):
        redundant = redundant_by_count(targets)
        with self.subTest(targets=targets):
            self.assertEqual(repr(redundant_targets(targets)), repr(redundant))
            left = tuple(target for target in targets if target not in redundant)
            self.assertEqual(repr(reduce_targets(targets)), repr(left))

    def test_against_count(self):
        for targets in subsets(intervals_up_to(3), 10):
            self.check(targets)

    def test_few_longer_targets(self):
        for targets in subsets(intervals_up_to(5), 3):
            self.check(targets)

    def test_large(self):
        for targets, pieces in large_pairs():
            self.check(targets)

    def test_no_targets(self):
        self.assertEqual(repr(redundant_targets(())), "()")
        self.assertEqual(repr(reduce_targets(())), "()")

    def test_one_target(self):
        for target in ((0, 0), (0, 3), (0, LAST), (LAST, LAST)):
            self.assertEqual(redundant_targets((target,)), ())
            self.assertEqual(reduce_targets((target,)), (target,))

    def test_redundant_ones_that_need_redundant_ones(self):
        targets = ((0, 0), (0, 1), (0, 2), (1, 1), (2, 2))
        self.assertEqual(redundant_targets(targets), ((0, 1), (0, 2)))
        self.assertEqual(reduce_targets(targets), ((0, 0), (1, 1), (2, 2)))

    def test_edges_of_the_positions(self):
        targets = ((0, LAST - 1), (0, LAST), (LAST, LAST))
        self.assertEqual(redundant_targets(targets), ((0, LAST),))
        self.assertEqual(reduce_targets(targets), ((0, LAST - 1), (LAST, LAST)))

    def test_most_targets(self):
        nest = tuple((k, LAST - k) for k in range(24))
        self.assertEqual(redundant_targets(nest), ())
        self.assertEqual(reduce_targets(nest), nest)
        row = ((0, 22),) + tuple((k, k) for k in range(23))
        self.assertEqual(redundant_targets(tuple(sorted(row))), ((0, 22),))

    def test_moved(self):
        for move, targets in product(MOVES.values(), subsets(intervals_up_to(3), 4)):
            redundant = redundant_by_count(targets)
            self.assertEqual(redundant_targets(all_moved(move, targets)), all_moved(move, redundant))
            left = tuple(target for target in targets if target not in redundant)
            self.assertEqual(reduce_targets(all_moved(move, targets)), all_moved(move, left))

    def test_remark_of_the_document(self):
        for targets, pieces in SHORT + FEW:
            if all_generated(reduce_targets(targets), pieces):
                self.assertTrue(all_generated(targets, pieces), (targets, pieces))


class EqualCalls(Timed):
    def test_equal_results(self):
        targets = ((0, 1), (0, 3), (2, 3))
        pieces = ((0, 1), (0, 3), (1, 2), (2, 3))
        calls = (
            (generates, (pieces, (0, 3))), (first_gap, (pieces, (0, 4))), (cover_chain, (pieces, (0, 3))),
            (find_missing, (targets, pieces[1:])), (removable_pieces, (targets, pieces)),
            (prune_pieces, (targets, pieces)), (redundant_targets, (targets,)), (reduce_targets, (targets,)),
        )
        self.check_equal_calls(calls)

    def test_an_error_changes_nothing(self):
        for function in (removable_pieces, prune_pieces):
            with self.assertRaises(NotGenerated):
                function(((0, 3),), ((0, 1),))
            self.assertEqual(function(((0, 3),), ((0, 3),)), () if function == removable_pieces else ((0, 3),))


if __name__ == "__main__":
    unittest.main()
