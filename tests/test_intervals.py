import copy
import unittest
from itertools import product

from fewspans.intervals import contains, hull_of, intersect, is_interval, is_pieces, is_targets, targets_error
from samples import LAST, NO_TUPLES, RIGHT_INTERVALS, WRONG_INTERVALS, intervals_up_to, points

ANY_VALUE_FUNCTIONS = (is_interval, is_targets, is_pieces, targets_error)


class DocumentExamples(unittest.TestCase):
    def test_is_interval(self):
        result = [is_interval((2, 2)), is_interval((3, 2)), is_interval((0, True))]
        self.assertEqual(repr(result), "[True, False, False]")

    def test_is_targets_and_is_pieces(self):
        result = [is_targets(((0, 1), (0, 3))), is_pieces(((0, 1), (0, 1)))]
        self.assertEqual(repr(result), "[True, False]")

    def test_targets_error(self):
        self.assertEqual(repr(targets_error(((0, 1), (0, 1)))), "(1, 'order')")

    def test_contains(self):
        result = [contains((0, 5), (2, 5)), contains((0, 5), (4, 6))]
        self.assertEqual(repr(result), "[True, False]")

    def test_intersect(self):
        result = [intersect((0, 5), (4, 9)), intersect((0, 1), (2, 3))]
        self.assertEqual(repr(result), "[(4, 5), None]")

    def test_hull_of(self):
        self.assertEqual(repr(hull_of((0, 1), (4, 9))), "(0, 9)")


class IsInterval(unittest.TestCase):
    def test_intervals(self):
        for value in RIGHT_INTERVALS:
            with self.subTest(value=value):
                self.assertIs(is_interval(value), True)

    def test_other_values(self):
        for value in WRONG_INTERVALS:
            with self.subTest(value=repr(value)[:60]):
                self.assertIs(is_interval(value), False)


class TargetsAndPieces(unittest.TestCase):
    def check(self, value, error):
        """Check all three functions for a value whose length does not matter."""
        with self.subTest(value=repr(value)[:60]):
            self.assertEqual(repr(targets_error(value)), repr(error))
            self.assertIs(is_targets(value), error is None)
            self.assertIs(is_pieces(value), error is None)

    def test_right_values(self):
        self.check((), None)
        for item in RIGHT_INTERVALS:
            self.check((item,), None)
        self.check(((0, 0), (0, 1), (0, LAST), (1, 1), (LAST - 1, LAST), (LAST, LAST)), None)
        self.check(((0, 9), (1, 2), (3, 4)), None)
        self.check(points(24), None)
        self.check(points(24, LAST - 23), None)

    def test_no_tuple(self):
        for value in NO_TUPLES:
            self.check(value, (None, "tuple"))

    def test_wrong_item(self):
        for item in WRONG_INTERVALS:
            self.check((item,), (0, "interval"))
            self.check((item, (5, 6)), (0, "interval"))
            self.check(((0, 1), item), (1, "interval"))
            self.check(((0, 1), (0, 3), item, (5, 6)), (2, "interval"))
            self.check(points(23) + (item,), (23, "interval"))

    def test_an_interval_is_no_tuple_of_intervals(self):
        for value in RIGHT_INTERVALS:
            self.check(value, (0, "interval"))

    def test_order(self):
        self.check(((0, 1), (0, 1)), (1, "order"))
        self.check(((0, 3), (0, 1)), (1, "order"))
        self.check(((1, 1), (0, 9)), (1, "order"))
        self.check(((0, 0), (5, 9), (5, 8)), (2, "order"))
        self.check(((LAST, LAST), (LAST, LAST)), (1, "order"))
        self.check(((LAST, LAST), (0, LAST)), (1, "order"))
        self.check(points(23) + ((22, 22),), (23, "order"))

    def test_repeated_item_that_is_not_beside_its_copy(self):
        self.check(((0, 1), (0, 3), (0, 1)), (2, "order"))

    def test_first_error_wins(self):
        self.check(((2, 3), (0, 1), "x"), (1, "order"))
        self.check(((2, 3), "x", (0, 1)), (1, "interval"))
        self.check(((2, 3), (1, 0)), (1, "interval"))
        self.check(((0, 1), (0, True)), (1, "interval"))
        self.check(((2, 3), (0, 1), (0, 1)), (1, "order"))
        self.check((None, (2, 3), (0, 1)), (0, "interval"))

    def test_equal_in_python_but_not_an_interval(self):
        self.check(((False, True),), (0, "interval"))
        self.check(((0, 1), (0, 3), (True, 3)), (2, "interval"))

    def test_most_targets(self):
        self.assertIs(targets_error(points(24)), None)
        self.assertIs(is_targets(points(24)), True)
        for value in (points(25), points(30), points(31), points(1000), points(24) + points(1), (None,) * 25):
            with self.subTest(many=len(value)):
                self.assertEqual(repr(targets_error(value)), "(None, 'tuple')")
                self.assertIs(is_targets(value), False)

    def test_most_pieces(self):
        for many in (24, 25, 29, 30):
            self.assertIs(is_pieces(points(many)), True, many)
            self.assertIs(is_pieces(points(many, LAST - many + 1)), True, many)
        for many in (31, 32, 60, 1000):
            self.assertIs(is_pieces(points(many)), False, many)
        self.assertIs(is_pieces(list(points(30))), False)
        self.assertIs(is_pieces(points(29) + ((28, 28),)), False)
        self.assertIs(is_pieces(points(29) + ((0, True),)), False)
        self.assertIs(is_pieces(points(29) + ([29, 29],)), False)


class AnyValue(unittest.TestCase):
    VALUES = WRONG_INTERVALS + RIGHT_INTERVALS + (points(24), points(25), ((0, 1), [0, {"a": [1]}]), ([(0, 1)],))

    def test_argument_is_not_changed(self):
        for function, value in product(ANY_VALUE_FUNCTIONS, self.VALUES):
            with self.subTest(function=function.__name__, value=repr(value)[:60]):
                given = copy.deepcopy(value)
                function(given)
                self.assertEqual(repr(given), repr(value))

    def test_equal_calls_return_equal_results(self):
        for function, value in product(ANY_VALUE_FUNCTIONS, self.VALUES):
            with self.subTest(function=function.__name__, value=repr(value)[:60]):
                first = function(value)
                self.assertEqual(repr(function(copy.deepcopy(value))), repr(first))
                self.assertEqual(repr(function(value)), repr(first))

    def test_later_change_of_argument(self):
        items = [(0, 1), (0, 1)]
        error = targets_error(tuple(items))
        items.clear()
        self.assertEqual(error, (1, "order"))


class TwoIntervals(unittest.TestCase):
    # Each row: first, second, first contains second, second contains first, common positions, hull.
    ROWS = (
        ("equal", (2, 5), (2, 5), True, True, (2, 5), (2, 5)),
        ("one position", (3, 3), (3, 3), True, True, (3, 3), (3, 3)),
        ("nested", (0, 9), (2, 5), True, False, (2, 5), (0, 9)),
        ("nested at low", (0, 9), (0, 5), True, False, (0, 5), (0, 9)),
        ("nested at high", (0, 9), (5, 9), True, False, (5, 9), (0, 9)),
        ("position in it", (0, 9), (4, 4), True, False, (4, 4), (0, 9)),
        ("overlapping", (0, 5), (4, 9), False, False, (4, 5), (0, 9)),
        ("one common position", (0, 5), (5, 9), False, False, (5, 5), (0, 9)),
        ("touching", (0, 4), (5, 9), False, False, None, (0, 9)),
        ("touching positions", (4, 4), (5, 5), False, False, None, (4, 5)),
        ("disjoint", (0, 1), (8, 9), False, False, None, (0, 9)),
    )

    def check(self, first, second, down, up, common, hull):
        self.assertIs(contains(first, second), down)
        self.assertIs(contains(second, first), up)
        self.assertEqual(repr(intersect(first, second)), repr(common))
        self.assertEqual(repr(intersect(second, first)), repr(common))
        self.assertEqual(repr(hull_of(first, second)), repr(hull))
        self.assertEqual(repr(hull_of(second, first)), repr(hull))

    def check_moved(self, move):
        for name, first, second, down, up, common, hull in self.ROWS:
            with self.subTest(name):
                common = None if common is None else move(common)
                self.check(move(first), move(second), down, up, common, move(hull))

    def test_small_positions(self):
        self.check_moved(lambda interval: interval)

    def test_positions_near_the_last(self):
        self.check_moved(lambda interval: (interval[0] + LAST - 9, interval[1] + LAST - 9))

    def test_long_intervals(self):
        width = 10 ** 11
        self.check_moved(lambda interval: (interval[0] * width, interval[1] * width + width - 1))

    def test_whole_range(self):
        self.check((0, LAST), (0, LAST), True, True, (0, LAST), (0, LAST))
        self.check((0, LAST), (LAST, LAST), True, False, (LAST, LAST), (0, LAST))
        self.check((0, 0), (LAST, LAST), False, False, None, (0, LAST))
        self.check((0, LAST - 1), (1, LAST), False, False, (1, LAST - 1), (0, LAST))

    def test_against_positions(self):
        for first, second in product(intervals_up_to(6), repeat=2):
            one = set(range(first[0], first[1] + 1))
            two = set(range(second[0], second[1] + 1))
            common = (min(one & two), max(one & two)) if one & two else None
            hull = (min(one | two), max(one | two))
            with self.subTest(first=first, second=second):
                self.check(first, second, two <= one, one <= two, common, hull)

    def test_equal_calls_return_equal_results(self):
        for function in (contains, intersect, hull_of):
            first, second = (0, 5), (4, 9)
            result = function(first, second)
            self.assertEqual(function((0, 5), (4, 9)), result)
            self.assertEqual((first, second), ((0, 5), (4, 9)))


if __name__ == "__main__":
    unittest.main()
