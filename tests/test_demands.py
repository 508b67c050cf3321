import copy
import unittest
from itertools import combinations, combinations_with_replacement, permutations, product

from fewspans.blocks import find_blocks
from fewspans.demands import all_demands, conflict, is_independent, joint_piece, open_demands, serves, shadow_target
from counted import between, jointly_served, served
from samples import (
    LAST, MOVES, NO_TUPLES, RIGHT_INTERVALS, WRONG_INTERVALS, counted_blocks, intervals_up_to, scattered, subsets,
)
from timed import Timed


def demands_up_to(last):
    return tuple((p, (low, high)) for low, high in intervals_up_to(last) for p in range(low, high + 1))


def moved_demand(move, demand, end=0):
    """Move a demand; end is 0 for the first and 1 for the last of the positions that its position becomes."""
    position, target = demand
    return (move((position, position))[end], move(target))


def smallest_of(intervals):
    """Return the interval that lies inside all others."""
    return next(
        ((a, b) for a, b in intervals if all(low <= a and b <= high for low, high in intervals)), None,
    )


class DocumentExamples(Timed):
    def test_serves(self):
        result = [serves((1, 2), (2, (0, 3))), serves((1, 4), (2, (0, 3)))]
        self.assertEqual(repr(result), "[True, False]")

    def test_conflict(self):
        result = [conflict((2, (0, 3)), (2, (1, 4))), conflict((0, (0, 3)), (4, (1, 4)))]
        self.assertEqual(repr(result), "[True, False]")

    def test_joint_piece(self):
        self.assertEqual(repr(joint_piece(((1, (0, 3)), (3, (1, 4))))), "(1, 3)")

    def test_is_independent(self):
        self.assertEqual(repr(is_independent(((0, (0, 1)), (4, (3, 4)), (2, (0, 3))))), "True")

    def test_all_demands(self):
        result = all_demands(((0, 1), (1, 2)))
        self.assertEqual(repr(result), "((0, (0, 1)), (1, (0, 1)), (1, (1, 2)), (2, (1, 2)))")

    def test_open_demands(self):
        self.assertEqual(repr(open_demands(((0, 2),), ((1, 1),))), "((0, (0, 2)), (2, (0, 2)))")

    def test_shadow_target(self):
        result = [
            shadow_target(((0, 3), (1, 2)), (2, (0, 3))),
            shadow_target(((0, 3), (1, 2)), (0, (0, 3))),
        ]
        self.assertEqual(repr(result), "[(1, 2), None]")


class Serves(Timed):
    def test_against_positions(self):
        for piece, demand in product(intervals_up_to(5), demands_up_to(5)):
            with self.subTest(piece=piece, demand=demand):
                self.assertIs(serves(piece, demand), served(piece, demand))

    def test_moved(self):
        for how, move in MOVES.items():
            for piece, demand, end in product(intervals_up_to(3), demands_up_to(3), (0, 1)):
                with self.subTest(how, piece=piece, demand=demand):
                    moved = moved_demand(move, demand, end)
                    self.assertIs(serves(move(piece), moved), served(piece, demand))

    def test_edges(self):
        self.assertIs(serves((0, LAST), (0, (0, LAST))), True)
        self.assertIs(serves((LAST, LAST), (LAST, (0, LAST))), True)
        self.assertIs(serves((0, 0), (0, (0, 0))), True)
        self.assertIs(serves((0, LAST), (LAST, (1, LAST))), False)
        self.assertIs(serves((0, LAST - 1), (LAST, (0, LAST))), False)


class Conflict(Timed):
    def test_against_every_interval(self):
        for first, second in product(demands_up_to(4), repeat=2):
            with self.subTest(first=first, second=second):
                self.assertIs(conflict(first, second), jointly_served(first, second))

    def test_against_the_second_sentence(self):
        for (p, one), (q, two) in product(demands_up_to(4), repeat=2):
            in_both = all(low <= at <= high for at in (p, q) for low, high in (one, two))
            self.assertIs(conflict((p, one), (q, two)), in_both)

    def test_with_itself(self):
        for demand in demands_up_to(5):
            for move in MOVES.values():
                moved = moved_demand(move, demand)
                self.assertIs(conflict(moved, moved), True)

    def test_moved(self):
        for how, move in MOVES.items():
            for first, second in product(demands_up_to(3), repeat=2):
                with self.subTest(how, first=first, second=second):
                    result = conflict(moved_demand(move, first), moved_demand(move, second, 1))
                    self.assertIs(result, jointly_served(first, second))

    def test_edges(self):
        self.assertIs(conflict((0, (0, LAST)), (LAST, (0, LAST))), True)
        self.assertIs(conflict((0, (0, LAST)), (LAST, (1, LAST))), False)
        self.assertIs(conflict((LAST, (LAST, LAST)), (0, (0, 0))), False)


class JointPiece(Timed):
    def check(self, demands):
        serving = [piece for piece in between(demands) if all(served(piece, demand) for demand in demands)]
        expected = smallest_of(serving)
        with self.subTest(demands=demands):
            self.assertEqual(repr(joint_piece(demands)), repr(expected))
            pairs = combinations(demands, 2)
            self.assertEqual(expected is not None, all(jointly_served(first, second) for first, second in pairs))

    def test_one(self):
        for demand in demands_up_to(5):
            self.assertEqual(joint_piece((demand,)), (demand[0], demand[0]))

    def test_pairs(self):
        for demands in product(demands_up_to(4), repeat=2):
            self.check(demands)

    def test_triples(self):
        for demands in combinations_with_replacement(demands_up_to(3), 3):
            self.check(demands)

    def test_triples_in_every_order(self):
        for demands in combinations(demands_up_to(2), 3):
            for given in permutations(demands):
                self.check(given)

    def test_moved(self):
        for move, demands in product(MOVES.values(), combinations_with_replacement(demands_up_to(2), 3)):
            self.check(tuple(moved_demand(move, demand) for demand in demands))
            self.check(tuple(moved_demand(move, demand, 1) for demand in demands))

    def test_equal_items(self):
        self.assertEqual(joint_piece(((2, (0, 3)),) * 5), (2, 2))
        self.assertEqual(joint_piece(((3, (1, 4)), (1, (0, 3)), (3, (1, 4)))), (1, 3))
        self.assertIs(joint_piece(((0, (0, 3)), (0, (0, 3)), (4, (1, 4)))), None)

    def test_many(self):
        nest = tuple((LAST // 2 + 7 * k, (k, LAST - k)) for k in range(300))
        self.assertEqual(joint_piece(nest), (LAST // 2, LAST // 2 + 2093))
        self.assertEqual(joint_piece(nest[::-1]), (LAST // 2, LAST // 2 + 2093))
        self.assertIs(joint_piece(nest + ((LAST, (0, LAST)),)), None)
        self.assertIs(joint_piece(((298, (0, LAST)),) + nest), None)
        self.assertEqual(joint_piece(((299, (0, LAST)),) + nest), (299, LAST // 2 + 2093))

    def test_edges(self):
        self.assertEqual(joint_piece(((0, (0, LAST)), (LAST, (0, LAST)))), (0, LAST))
        self.assertIs(joint_piece(((0, (0, LAST)), (LAST, (1, LAST)))), None)
        self.assertEqual(joint_piece(((LAST, (LAST, LAST)), (LAST, (0, LAST)))), (LAST, LAST))


GOOD = (7, (5, 9))

WRONG_POSITIONS = NO_TUPLES[:3] + (
    -1, LAST + 1, 10 ** 29, -(10 ** 29), "", "0", "0-1", [], [0], {}, {"0": 0}, (), (0,), (0, 0), ((0, 0),),
)

WRONG_DEMANDS = NO_TUPLES + tuple((0, target) for target in WRONG_INTERVALS) + tuple(
    (position, target) for position, target in product(WRONG_POSITIONS, ((0, 1), (0, LAST), (1, 1)))
) + (
    (), (0,), ((0, 1),), (0, 1), (0, 0, 1), (0, (0, 1), 0), (0, (0, 1), None), (0, (0, 1), (0, 1)), (0, 0, (0, 1)),
    ((0, 1), 0), ((0, 1), (0, 1)), [0, (0, 1)], (0, [0, 1]), ((0, (0, 1)),),
    (True, (1, 1)), (False, (0, 0)), (1, (True, 1)), (1, (1, True)), (1, (False, 2)), (0, (False, False)),
    (2, (0, 1)), (0, (1, 2)), (10, (5, 9)), (4, (5, 9)), (LAST, (0, LAST - 1)), (0, (1, LAST)),
)


class IsIndependent(Timed):
    def test_empty(self):
        self.assertIs(is_independent(()), True)

    def test_one(self):
        for demand in demands_up_to(5):
            for move in MOVES.values():
                self.assertIs(is_independent((moved_demand(move, demand),)), True)
        for low, high in RIGHT_INTERVALS:
            self.assertIs(is_independent(((low, (low, high)),)), True)
            self.assertIs(is_independent(((high, (low, high)),)), True)

    def test_pairs(self):
        for first, second in product(demands_up_to(4), repeat=2):
            with self.subTest(first=first, second=second):
                self.assertIs(is_independent((first, second)), not jointly_served(first, second))

    def test_triples_in_any_order(self):
        for demands in product(demands_up_to(2), repeat=3):
            expected = not any(jointly_served(first, second) for first, second in combinations(demands, 2))
            with self.subTest(demands=demands):
                self.assertIs(is_independent(demands), expected)

    def test_equal_items(self):
        self.assertIs(is_independent((GOOD, GOOD)), False)
        self.assertIs(is_independent(((0, (0, 1)), GOOD, (0, (0, 1)))), False)

    def test_many(self):
        apart = tuple((3 * k, (3 * k, 3 * k + 2)) for k in range(240))
        self.assertIs(is_independent(apart), True)
        self.assertIs(is_independent(apart[::-1]), True)
        nest = tuple((k, (k, LAST - k)) for k in range(240))
        self.assertIs(is_independent(nest), True)
        self.assertIs(is_independent(nest + ((LAST, (1, LAST)),)), True)
        self.assertIs(is_independent(nest + ((120, (120, LAST)),)), False)
        self.assertIs(is_independent(apart + (apart[100],)), False)
        self.assertIs(is_independent((apart[239],) + apart), False)

    def test_no_tuple(self):
        for value in NO_TUPLES + ([], [GOOD], [list(GOOD)], {"0": GOOD}, "((7, (5, 9)),)"):
            with self.subTest(value=repr(value)[:60]):
                self.assertIs(is_independent(value), False)

    def test_a_demand_is_no_tuple_of_demands(self):
        self.assertIs(is_independent(GOOD), False)

    def test_wrong_items(self):
        for wrong in WRONG_DEMANDS:
            with self.subTest(wrong=repr(wrong)[:60]):
                self.assertIs(is_independent((wrong,)), False)
                self.assertIs(is_independent((wrong, GOOD)), False)
                self.assertIs(is_independent((GOOD, wrong)), False)
                self.assertIs(is_independent((GOOD, (20, (20, 30)), wrong, (40, (40, 50)))), False)
                self.assertIs(is_independent((GOOD, GOOD, wrong)), False)

    def test_tuples_of_intervals(self):
        for value in WRONG_INTERVALS + tuple((item,) for item in RIGHT_INTERVALS):
            if value != ():
                with self.subTest(value=repr(value)[:60]):
                    self.assertIs(is_independent(value), False)

    def test_results_with_parts_replaced(self):
        result = ((0, (0, 1)), (2, (0, 3)), (4, (3, 4)))
        self.assertIs(is_independent(result), True)
        for index, wrong in product(range(3), (None, True, [0, (0, 1)], (0, [0, 1]), (True, (0, 1)), (0, (0, True)))):
            changed = result[:index] + (wrong,) + result[index + 1:]
            with self.subTest(changed=changed):
                self.assertIs(is_independent(changed), False)
        self.assertIs(is_independent(list(result)), False)

    def test_argument_is_not_changed(self):
        for value in WRONG_DEMANDS + ([GOOD], (GOOD, [1, {"a": [2]}]), (GOOD, (1, [0, 3]))):
            with self.subTest(value=repr(value)[:60]):
                given = copy.deepcopy(value)
                first = is_independent(given)
                self.assertEqual(repr(given), repr(value))
                self.assertIs(is_independent(value), first)


def expected_demands(targets, pieces, beginnings):
    """Return the sorted tuple of the open demands of the targets at the positions where blocks begin."""
    return tuple(sorted(
        (p, (low, high)) for p in beginnings for low, high in targets
        if low <= p <= high and not any(served(piece, (p, (low, high))) for piece in pieces)
    ))


class DemandsOfTargets(Timed):
    def check(self, targets, pieces):
        beginnings = [low for low, high in counted_blocks(targets + pieces)]
        with self.subTest(targets=targets, pieces=pieces):
            self.assertEqual(repr(open_demands(targets, pieces)), repr(expected_demands(targets, pieces, beginnings)))

    def check_all(self, targets):
        beginnings = [low for low, high in counted_blocks(targets)]
        with self.subTest(targets=targets):
            self.assertEqual(repr(all_demands(targets)), repr(expected_demands(targets, (), beginnings)))

    def test_all_demands(self):
        for targets in subsets(intervals_up_to(3), 10):
            self.check_all(targets)

    def test_open_demands_of_short_intervals(self):
        for targets, pieces in product(subsets(intervals_up_to(2), 6), repeat=2):
            self.check(targets, pieces)

    def test_open_demands_of_few_intervals(self):
        for targets, pieces in product(subsets(intervals_up_to(4), 1), subsets(intervals_up_to(4), 2)):
            self.check(targets, pieces)

    def test_no_pieces(self):
        for targets in subsets(intervals_up_to(2), 6):
            self.assertEqual(open_demands(targets, ()), all_demands(targets))

    def test_nothing(self):
        self.assertEqual(repr(all_demands(())), "()")
        self.assertEqual(repr(open_demands((), ())), "()")
        self.assertEqual(repr(open_demands((), ((0, 3), (5, LAST)))), "()")

    def test_target_is_a_piece(self):
        for move in MOVES.values():
            target = move((2, 6))
            self.assertEqual(open_demands((target,), (target,)), ())
        self.assertEqual(open_demands(((0, 3), (1, 5)), ((1, 5),)), ((0, (0, 3)), (1, (0, 3))))

    def test_pieces_that_serve_nothing_still_make_blocks(self):
        self.assertEqual(open_demands(((2, 5),), ((4, 9),)), ((2, (2, 5)), (4, (2, 5))))
        self.assertEqual(open_demands(((2, 5),), ((0, 3),)), ((2, (2, 5)), (4, (2, 5))))
        self.assertEqual(open_demands(((2, 5),), ((0, 9),)), ((2, (2, 5)),))
        self.assertEqual(open_demands(((2, 5),), ((7, 9),)), ((2, (2, 5)),))

    def test_single_positions(self):
        self.assertEqual(all_demands(((0, 0),)), ((0, (0, 0)),))
        self.assertEqual(all_demands(((LAST, LAST),)), ((LAST, (LAST, LAST)),))
        self.assertEqual(all_demands(((0, 0), (1, 1))), ((0, (0, 0)), (1, (1, 1))))
        self.assertEqual(open_demands(((3, 3), (3, 4)), ((3, 3),)), ((4, (3, 4)),))
        self.assertEqual(open_demands(((LAST - 1, LAST),), ((LAST, LAST),)), ((LAST - 1, (LAST - 1, LAST)),))

    def test_whole_range(self):
        whole = (0, LAST)
        self.assertEqual(all_demands((whole,)), ((0, whole),))
        self.assertEqual(open_demands((whole,), ((0, 0), (LAST, LAST))), ((1, whole),))
        self.assertEqual(open_demands((whole,), ((1, LAST - 1),)), ((0, whole), (LAST, whole)))

    def test_moved(self):
        for how, move in MOVES.items():
            for targets, pieces in product(subsets(intervals_up_to(3), 2), subsets(intervals_up_to(3), 1)):
                moved_targets = tuple(map(move, targets))
                moved_pieces = tuple(map(move, pieces))
                beginnings = [low for low, high in counted_blocks(targets + pieces)]
                demands = expected_demands(targets, pieces, beginnings)
                moved = tuple(moved_demand(move, demand) for demand in demands)
                with self.subTest(how, targets=targets, pieces=pieces):
                    self.assertEqual(repr(open_demands(moved_targets, moved_pieces)), repr(moved))

    def test_most_targets_and_pieces(self):
        for step, length, last in product((3, 5, 7), (1, 2, 5), (20, 60)):
            targets = tuple(sorted(set(scattered(40, step, length, last))))[:24]
            pieces = tuple(sorted(set(scattered(60, length, step, last))))[:30]
            self.check(targets, pieces)
            self.check_all(targets)
        nest = tuple((k, LAST - k) for k in range(24))
        beginnings = [low for low, high in find_blocks(nest)]
        self.assertEqual(len(beginnings), 47)
        self.assertEqual(len(all_demands(nest)), sum(2 * (24 - k) - 1 for k in range(24)))
        self.assertEqual(open_demands(nest, ((30, LAST - 30),))[-1], (LAST, (0, LAST)))

    def test_later_change_of_argument(self):
        rows = [(0, 1), (1, 2)]
        result = all_demands(tuple(rows))
        rows.clear()
        self.assertEqual(result, all_demands(((0, 1), (1, 2))))


class ShadowTarget(Timed):
    def expected(self, targets, demand):
        position, (low, high) = demand
        inside = [(a, b) for a, b in targets if low <= a <= position <= b <= high and (a, b) != (low, high)]
        return min(inside, default=None)

    def check(self, targets, demand):
        with self.subTest(targets=targets, demand=demand):
            self.assertEqual(repr(shadow_target(targets, demand)), repr(self.expected(targets, demand)))

    def test_short_intervals(self):
        for targets, demand in product(subsets(intervals_up_to(2), 6), demands_up_to(2)):
            self.check(targets, demand)

    def test_few_intervals(self):
        for targets, demand in product(subsets(intervals_up_to(4), 2), demands_up_to(4)):
            self.check(targets, demand)

    def test_moved(self):
        for move, targets in product(MOVES.values(), subsets(intervals_up_to(3), 2)):
            for demand, end in product(demands_up_to(3), (0, 1)):
                self.check(tuple(map(move, targets)), moved_demand(move, demand, end))

    def test_remark_of_the_document(self):
        for targets, demand in product(subsets(intervals_up_to(3), 2), demands_up_to(3)):
            shadow = shadow_target(targets, demand)
            if shadow is not None:
                for piece in intervals_up_to(3):
                    if serves(piece, (demand[0], shadow)):
                        self.assertTrue(serves(piece, demand))

    def test_most_targets(self):
        nest = tuple((k, LAST - k) for k in range(24))
        self.assertEqual(shadow_target(nest, (LAST // 2, (0, LAST))), (1, LAST - 1))
        self.assertEqual(shadow_target(nest, (LAST // 2, (22, LAST - 22))), (23, LAST - 23))
        self.assertIs(shadow_target(nest, (LAST // 2, (23, LAST - 23))), None)
        self.assertIs(shadow_target(nest, (0, (0, LAST))), None)
        self.assertIs(shadow_target(nest, (LAST, (0, LAST))), None)

    def test_no_targets(self):
        self.assertIs(shadow_target((), (2, (0, 3))), None)


class EqualCalls(Timed):
    def test_equal_results(self):
        demands = ((1, (0, 3)), (3, (1, 4)))
        targets = ((0, 3), (1, 2), (1, 4))
        calls = (
            (serves, ((1, 2), demands[0])), (conflict, demands), (joint_piece, (demands,)),
            (is_independent, (demands,)), (all_demands, (targets,)), (open_demands, (targets, ((1, 1),))),
            (shadow_target, (targets, demands[0])),
        )
        self.check_equal_calls(calls)


if __name__ == "__main__":
    unittest.main()
