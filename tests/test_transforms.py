import unittest
from itertools import product

from fewspans.errors import OutOfRange, SpanError, TooMany
from fewspans.intervals import is_targets
from fewspans.transforms import (
    double_position, join_targets, reflect_targets, remove_position, shift_targets, window_targets,
)
from samples import LAST, MOVES, all_moved, intervals_up_to, points, scattered, subsets
from timed import Timed

SMALL = subsets(intervals_up_to(3), 3)
MANY = tuple(
    tuple(sorted(set(scattered(40, step, length, last))))[:24] for step, length, last in product((3, 5), (1, 5), (20, 40))
)


def spans(position_sets):
    """Make the ascending tuple of the intervals that have these positions, without empty and equal ones."""
    rows = {tuple(sorted(positions)) for positions in position_sets if positions}
    for row in rows:
        assert row == tuple(range(row[0], row[-1] + 1)), row
    return tuple(sorted((row[0], row[-1]) for row in rows))


def positions_of(targets):
    return [set(range(low, high + 1)) for low, high in targets]


class Transforms(Timed):
    def check(self, result, expected):
        self.assertEqual(repr(result), repr(expected))
        self.assertIs(is_targets(result), True)

    def check_raises(self, error, function, *arguments):
        with self.subTest(function.__name__, arguments=arguments):
            with self.assertRaises(error) as context:
                function(*arguments)
            self.assertIs(type(context.exception), error)
            self.assertIsInstance(context.exception, SpanError)
            return context.exception


class DocumentExamples(Transforms):
    def test_reflect_targets(self):
        self.assertEqual(repr(reflect_targets(((0, 1), (3, 5)), 5)), "((0, 2), (4, 5))")

    def test_shift_targets(self):
        self.check_raises(OutOfRange, shift_targets, ((0, 1),), -1)

    def test_remove_position(self):
        self.assertEqual(repr(remove_position(((0, 1), (1, 1), (2, 4)), 1)), "((0, 0), (1, 3))")

    def test_double_position(self):
        self.assertEqual(repr(double_position(((0, 1), (2, 4)), 1)), "((0, 2), (3, 5))")

    def test_join_targets(self):
        self.assertEqual(repr(join_targets(((0, 1),), ((5, 6),), 2)), "((0, 1), (3, 4))")

    def test_window_targets(self):
        self.assertEqual(repr(window_targets(((0, 1), (0, 3), (2, 3)), (1, 3))), "((2, 3),)")


class ReflectTargets(Transforms):
    def test_against_positions(self):
        for targets, last in product(SMALL, (3, 4, 9)):
            self.check(reflect_targets(targets, last), spans([{last - p for p in row} for row in positions_of(targets)]))

    def test_twice(self):
        for targets, last in product(SMALL[:60] + list(MANY), (60, 1000, LAST)):
            self.check(reflect_targets(reflect_targets(targets, last), last), targets)

    def test_many(self):
        for targets in MANY:
            self.check(reflect_targets(targets, 60), spans([{60 - p for p in row} for row in positions_of(targets)]))

    def test_edges(self):
        self.check(reflect_targets((), 0), ())
        self.check(reflect_targets(((0, 0),), 0), ((0, 0),))
        self.check(reflect_targets(((0, 0),), LAST), ((LAST, LAST),))
        self.check(reflect_targets(((0, 0), (0, LAST), (LAST, LAST)), LAST), ((0, 0), (0, LAST), (LAST, LAST)))
        self.check(reflect_targets(((0, 0), (0, LAST - 1)), LAST - 1), ((0, LAST - 1), (LAST - 1, LAST - 1)))


class ShiftTargets(Transforms):
    def test_against_positions(self):
        for targets, by in product(SMALL, range(-4, 5)):
            moved = [{p + by for p in row} for row in positions_of(targets)]
            if any(min(row) < 0 for row in moved):
                self.check_raises(OutOfRange, shift_targets, targets, by)
            else:
                self.check(shift_targets(targets, by), spans(moved))

    def test_there_and_back(self):
        for targets, by in product(SMALL[:60] + list(MANY), (0, 1, 7, LAST - 60)):
            self.check(shift_targets(shift_targets(targets, by), -by), targets)

    def test_limits(self):
        self.check(shift_targets(((1, 5),), -1), ((0, 4),))
        self.check_raises(OutOfRange, shift_targets, ((1, 5),), -2)
        self.check(shift_targets(((1, 5),), LAST - 5), ((LAST - 4, LAST),))
        self.check_raises(OutOfRange, shift_targets, ((1, 5),), LAST - 4)
        self.check(shift_targets(((0, LAST),), 0), ((0, LAST),))
        self.check_raises(OutOfRange, shift_targets, ((0, LAST),), 1)
        self.check_raises(OutOfRange, shift_targets, ((0, LAST),), -1)
        self.check(shift_targets(((0, 0),), LAST), ((LAST, LAST),))
        self.check_raises(OutOfRange, shift_targets, ((0, 0),), LAST + 1)
        self.check_raises(OutOfRange, shift_targets, ((LAST, LAST),), -LAST - 1)

    def test_every_target_counts(self):
        self.check_raises(OutOfRange, shift_targets, ((0, 9), (5, 6)), LAST - 8)
        self.check_raises(OutOfRange, shift_targets, ((0, 1), (5, LAST), (7, 8)), 1)
        self.check(shift_targets(((0, 9), (5, 6)), LAST - 9), ((LAST - 9, LAST), (LAST - 4, LAST - 3)))

    def test_far(self):
        for by in (10 ** 29, -(10 ** 29)):
            self.check_raises(OutOfRange, shift_targets, ((0, 0),), by)
            self.check(shift_targets((), by), ())


class RemoveAndDouble(Transforms):
    def removed(self, targets, position):
        rows = [{p - (p > position) for p in row if p != position} for row in positions_of(targets)]
        return spans(rows)

    def doubled(self, targets, position):
        rows = [{p + (p > position) for p in row} for row in positions_of(targets)]
        return spans([row | {position + 1} if position in row else row for row in rows])

    def test_against_positions(self):
        for targets, position in product(SMALL, range(6)):
            with self.subTest(targets=targets, position=position):
                self.check(remove_position(targets, position), self.removed(targets, position))
                self.check(double_position(targets, position), self.doubled(targets, position))

    def test_many(self):
        for targets, position in product(MANY, range(0, 45)):
            self.check(remove_position(targets, position), self.removed(targets, position))
            self.check(double_position(targets, position), self.doubled(targets, position))

    def test_removing_a_doubled_position(self):
        for targets, position in product(SMALL + list(MANY), (0, 1, 2, 3, 17, LAST - 1)):
            doubled = double_position(targets, position)
            self.check(remove_position(doubled, position), targets)
            self.check(remove_position(doubled, position + 1), targets)

    def test_moved(self):
        for targets, position in product(SMALL, range(4)):
            moved = all_moved(MOVES["near the last position"], targets)
            by = LAST - 9
            self.check(remove_position(moved, position + by), shift_targets(self.removed(targets, position), by))
            self.check(double_position(moved, position + by), shift_targets(self.doubled(targets, position), by))

    def test_order_after_merging(self):
        self.check(remove_position(((0, 2), (1, 1), (1, 2), (2, 2)), 1), ((0, 1), (1, 1)))
        self.check(remove_position(((0, 5), (1, 2), (1, 3)), 0), ((0, 1), (0, 2), (0, 4)))
        self.check(remove_position(((0, 5), (1, 5)), 0), ((0, 4),))
        self.check(remove_position(((0, 9), (1, 3)), 0), ((0, 2), (0, 8)))

    def test_remove_at_the_edges(self):
        self.check(remove_position((), 0), ())
        self.check(remove_position(((0, 0),), 0), ())
        self.check(remove_position(((0, 0),), LAST), ((0, 0),))
        self.check(remove_position(((LAST, LAST),), LAST), ())
        self.check(remove_position(((LAST, LAST),), 0), ((LAST - 1, LAST - 1),))
        self.check(remove_position(((0, LAST),), 0), ((0, LAST - 1),))
        self.check(remove_position(((0, LAST),), LAST), ((0, LAST - 1),))
        self.check(remove_position(((0, LAST),), 4000), ((0, LAST - 1),))
        self.check(remove_position(points(24), 23), points(23))
        self.check(remove_position(points(24), 24), points(24))

    def test_double_at_the_edges(self):
        self.check(double_position((), LAST), ())
        self.check(double_position(((0, LAST - 1),), LAST), ((0, LAST - 1),))
        self.check(double_position(((0, LAST - 1),), LAST - 1), ((0, LAST),))
        self.check(double_position(((LAST - 1, LAST - 1),), 0), ((LAST, LAST),))
        self.check(double_position(((0, 0),), 0), ((0, 1),))
        self.check(double_position(points(24), 0), ((0, 1),) + points(23, 2))

    def test_double_out_of_range(self):
        for targets in (((0, LAST),), ((LAST, LAST),), ((0, 0), (3, LAST), (4, 5))):
            for position in (0, 1, LAST - 1, LAST):
                self.check_raises(OutOfRange, double_position, targets, position)


class JoinTargets(Transforms):
    def expected(self, first, second, gap):
        if not first or not second:
            return first + second
        by = max(high for low, high in first) + gap - min(low for low, high in second)
        return spans(positions_of(first) + [{p + by for p in row} for row in positions_of(second)])

    def test_against_positions(self):
        for first, second, gap in product(SMALL[::5], SMALL[::3], (1, 2, 9)):
            with self.subTest(first=first, second=second, gap=gap):
                self.check(join_targets(first, second, gap), self.expected(first, second, gap))

    def test_greatest_high_end_is_not_the_last_one(self):
        self.check(join_targets(((0, 9), (1, 2)), ((5, 6), (7, 8)), 1), ((0, 9), (1, 2), (10, 11), (12, 13)))

    def test_empty(self):
        for other in ((), ((0, 1),), ((5, 9), (LAST, LAST)), points(24)):
            for gap in (1, LAST, 10 ** 29):
                self.check(join_targets((), other, gap), other)
                self.check(join_targets(other, (), gap), other)

    def test_most_targets(self):
        self.check(join_targets(points(12), points(12, 5), 1), points(24))
        self.check(join_targets(points(23), ((9, 9),), 1), points(24))
        for first, second in ((12, 13), (13, 12), (24, 1), (1, 24), (24, 24)):
            error = self.check_raises(TooMany, join_targets, points(first), points(second), 1)
            self.assertEqual(repr(error.bound), "24")

    def test_out_of_range(self):
        self.check(join_targets(((0, 4),), ((9, 10),), LAST - 5), ((0, 4), (LAST - 1, LAST)))
        self.check_raises(OutOfRange, join_targets, ((0, 4),), ((9, 10),), LAST - 4)
        self.check_raises(OutOfRange, join_targets, ((0, LAST),), ((0, 0),), 1)
        self.check_raises(OutOfRange, join_targets, ((0, 0),), ((0, LAST),), 1)
        self.check_raises(OutOfRange, join_targets, ((0, 0),), ((0, 0),), 10 ** 29)
        self.check(join_targets(((0, 0),), ((LAST, LAST),), LAST), ((0, 0), (LAST, LAST)))
        self.check(join_targets(((0, 0),), ((1, LAST),), 1), ((0, 0), (1, LAST)))

    def test_too_many_comes_first(self):
        error = self.check_raises(TooMany, join_targets, points(24), ((0, LAST),), 1)
        self.assertEqual(error.bound, 24)
        self.check_raises(TooMany, join_targets, ((LAST, LAST),), points(24), 10 ** 29)


class WindowTargets(Transforms):
    def test_against_positions(self):
        for targets, (low, high) in product(SMALL, intervals_up_to(4)):
            inside = [row for row in positions_of(targets) if row <= set(range(low, high + 1))]
            self.check(window_targets(targets, (low, high)), spans(inside))

    def test_edges(self):
        targets = ((0, 0), (0, LAST), (1, LAST - 1), (LAST, LAST))
        self.check(window_targets(targets, (0, LAST)), targets)
        self.check(window_targets(targets, (1, LAST)), ((1, LAST - 1), (LAST, LAST)))
        self.check(window_targets(targets, (0, LAST - 1)), ((0, 0), (1, LAST - 1)))
        self.check(window_targets(targets, (2, 3)), ())
        self.check(window_targets((), (0, LAST)), ())
        self.check(window_targets(points(24), (5, 7)), points(3, 5))


class EqualCalls(Transforms):
    def test_equal_results(self):
        targets = ((0, 1), (0, 3), (2, 3))
        calls = (
            (reflect_targets, (targets, 9)), (shift_targets, (targets, 3)), (remove_position, (targets, 1)),
            (double_position, (targets, 1)), (join_targets, (targets, targets, 2)), (window_targets, (targets, (0, 2))),
        )
        self.check_equal_calls(calls)


if __name__ == "__main__":
    unittest.main()
