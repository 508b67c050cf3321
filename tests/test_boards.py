import unittest
from itertools import combinations, product
from random import Random

from counted import is_int, is_rising
from fewspans.boards import are_separate, board_targets, cover_board, cover_holds, is_board, is_rectangle
from fewspans.solving import count_needed
from samples import LAST, NO_TUPLES, RIGHT_INTERVALS, WRONG_INTERVALS, intervals_up_to, nested, parts_replaced
from timed import Timed

B = ((0, 1), (0, 2), (0, 0))


def small_boards(columns, last):
    return tuple(product((None,) + intervals_up_to(last), repeat=columns))


def drawn_board(number, last):
    """Draw a board of eight columns, the same one for equal numbers."""
    draw = Random(number)
    return tuple(draw.choices((None,) * (number % 3) + intervals_up_to(last), k=8))


SMALL = small_boards(1, 3) + small_boards(2, 2) + small_boards(3, 1)
LARGE = tuple(drawn_board(number, last) for number, last in product(range(40), (2, 5, 9)))


def cells_of(board):
    return sorted((at, row) for at, column in enumerate(board) if column for row in range(column[0], column[1] + 1))


def cells_inside(rectangle):
    left, right, bottom, top = rectangle
    return set(product(range(left, right + 1), range(bottom, top + 1)))


def rectangles_of(board):
    """List all rectangles of a board, by looking at all cells."""
    cells = set(cells_of(board))
    spans = intervals_up_to(max((row for at, row in cells), default=-1))
    every = [columns + rows for columns, rows in product(intervals_up_to(len(board) - 1), spans)]
    return [rectangle for rectangle in every if cells_inside(rectangle) <= cells]


def separate_by_search(rectangles, first, second):
    return not any({first, second} <= cells_inside(rectangle) for rectangle in rectangles)


def runs_by_search(board):
    """List the runs by going through all rows."""
    cells = set(cells_of(board))
    runs = set()
    for row, (left, right) in product({row for at, row in cells}, intervals_up_to(len(board) - 1)):
        whole = all((at, row) in cells for at in range(left, right + 1))
        if whole and (left - 1, row) not in cells and (right + 1, row) not in cells:
            runs.add((left, right))
    return tuple(sorted(runs))


def least_cover(board):
    """Try all sets of rectangles in order of size."""
    cells = set(cells_of(board))
    inside = [cells_inside(rectangle) for rectangle in rectangles_of(board)]
    many = 0
    while not any(set().union(*rows) == cells for rows in combinations(inside, many)):
        many += 1
    return many


def correct_cover(board, value):
    """Answer whether any value is a cover, for boards with few rows."""
    if type(value) is not tuple or len(value) != 2:
        return False
    rectangles, cells = value
    every, whole = rectangles_of(board), cells_of(board)

    def is_one_of(known, length):
        def is_item(item):
            numbers = type(item) is tuple and len(item) == length and all(is_int(part, 0, LAST) for part in item)
            return numbers and item in known
        return is_item

    if not is_rising(rectangles, is_one_of(every, 4)) or not is_rising(cells, is_one_of(whole, 2)):
        return False
    covered = set().union(*map(cells_inside, rectangles))
    apart = all(separate_by_search(every, first, second) for first, second in combinations(cells, 2))
    return len(rectangles) == len(cells) and covered == set(whole) and apart


# Ways to move rows from 0 to 9 that keep which rows are beside each other: each row becomes one or many.
ROWS = {
    "near the last position": lambda low, high: (low + LAST - 9, high + LAST - 9),
    "long": lambda low, high: (low * 10 ** 11, high * 10 ** 11 + 10 ** 11 - 1),
    "up to the last position": lambda low, high: (low * 7, high * 7 + 6 if high < 9 else LAST),
}


def moved_board(move, board):
    return tuple(column and move(*column) for column in board)


class DocumentExamples(Timed):
    def test_is_board(self):
        self.assertEqual(repr([is_board(((0, 1), None)), is_board(())]), "[True, False]")

    def test_is_rectangle(self):
        self.assertEqual(repr([is_rectangle(B, (0, 1, 0, 1)), is_rectangle(B, (0, 2, 0, 1))]), "[True, False]")

    def test_are_separate(self):
        self.assertEqual(repr([are_separate(B, (0, 1), (1, 2)), are_separate(B, (0, 0), (1, 1))]), "[True, False]")

    def test_board_targets(self):
        self.assertEqual(repr(board_targets(B)), "((0, 1), (0, 2), (1, 1))")

    def test_cover_board(self):
        self.assertIs(cover_holds(B, cover_board(B)), True)

    def test_cover_holds(self):
        rectangles = ((0, 1, 0, 1), (0, 2, 0, 0), (1, 1, 0, 2))
        self.assertIs(cover_holds(B, (rectangles, ((0, 1), (1, 2), (2, 0)))), True)


class IsBoard(Timed):
    def test_boards(self):
        for column in RIGHT_INTERVALS + (None,):
            for many in range(1, 9):
                self.assertIs(is_board((column,) * many), True)
                self.assertIs(is_board((None,) * (many - 1) + (column,)), True)
                self.assertIs(is_board((column,) + (None,) * (many - 1)), True)
        for board in SMALL[::7] + LARGE:
            self.assertIs(is_board(board), True)

    def test_number_of_columns(self):
        for column in (None, (0, 1), (0, LAST)):
            self.assertIs(is_board((column,) * 8), True)
            self.assertIs(is_board((column,) * 9), False)
            self.assertIs(is_board((column,) * 0), False)
            self.assertIs(is_board((column,) * 500), False)

    def test_other_values(self):
        for value in NO_TUPLES + ([None], [(0, 1)], list(B), {"0": (0, 1)}, (0, 1), (0,), ("",)):
            with self.subTest(value=repr(value)[:60]):
                self.assertIs(is_board(value), False)

    def test_wrong_columns(self):
        for wrong in WRONG_INTERVALS:
            if wrong is not None:
                for board in ((wrong,), (wrong, None), ((0, 1), wrong), (None,) * 7 + (wrong,), ((0, 1), wrong, (0, 1))):
                    with self.subTest(board=repr(board)[:60]):
                        self.assertIs(is_board(board), False)


class IsRectangle(Timed):
    def test_against_search(self):
        for board in SMALL[::3] + LARGE[::20]:
            rectangles = set(rectangles_of(board))
            for value in product(range(-1, len(board) + 1), range(-1, len(board) + 1), range(-1, 4), range(-1, 4)):
                if is_rectangle(board, value) is not (value in rectangles):
                    self.fail((board, value))

    def test_moved(self):
        for move, board in product(ROWS.values(), LARGE[::8]):
            moved = moved_board(move, board)
            rectangles = set(rectangles_of(board))
            for (left, right), (bottom, top) in product(intervals_up_to(7)[::3], intervals_up_to(9)[::2]):
                result = is_rectangle(moved, (left, right) + move(bottom, top))
                self.assertIs(result, (left, right, bottom, top) in rectangles)

    def test_long_columns(self):
        board = ((0, LAST), None, (1, LAST), (0, LAST - 1))
        self.assertIs(is_rectangle(board, (0, 0, 0, LAST)), True)
        self.assertIs(is_rectangle(board, (2, 3, 1, LAST - 1)), True)
        self.assertIs(is_rectangle(board, (2, 3, 0, LAST - 1)), False)
        self.assertIs(is_rectangle(board, (2, 3, 1, LAST)), False)
        self.assertIs(is_rectangle(board, (0, 2, 5, 5)), False)
        self.assertIs(is_rectangle(board, (1, 1, 5, 5)), False)
        self.assertIs(is_rectangle(board, (0, 0, 0, LAST + 1)), False)

    def test_columns_from_the_end(self):
        for value in ((-1, -1, 0, 0), (-3, -1, 0, 0), (-1, 0, 0, 0), (0, 3, 0, 0), (3, 3, 0, 0), (2, 1, 0, 0)):
            self.assertIs(is_rectangle(B, value), False)

    def test_true_is_not_one(self):
        self.assertIs(is_rectangle(B, (0, 1, 0, 1)), True)
        for value in ((False, 1, 0, 1), (0, True, 0, 1), (0, 1, False, 1), (0, 1, 0, True), (True, True, True, True)):
            self.assertIs(is_rectangle(B, value), False)

    def test_other_values(self):
        values = NO_TUPLES + WRONG_INTERVALS + RIGHT_INTERVALS + (
            [0, 1, 0, 1], (0, 1, 0), (0, 1, 0, 1, 0), ((0, 1), (0, 1)), ((0, 1, 0, 1),), (None,) * 4, ("0", "1", "0", "1"),
            ([], [], [], []), (0, 1, 0, None), (0, 1, 0, "1"), (0, 1, [0], 1), ({}, 1, 0, 1), (0, (1,), 0, 1),
            (0, 10 ** 29, 0, 1), (-(10 ** 29), 1, 0, 1), (0, 1, 0, 10 ** 29), (0, 1, -(10 ** 29), 1), (0, 1, 1, 0),
            nested(20, lambda value: (0, 1, 0, value)),
        )
        for board, value in product((B, (None,), ((0, LAST),) * 8), values):
            with self.subTest(board=board, value=repr(value)[:60]):
                self.assertIs(is_rectangle(board, value), False)


class AreSeparate(Timed):
    def test_against_search(self):
        for board in SMALL + LARGE[::10]:
            rectangles = rectangles_of(board)
            cells = cells_of(board)
            for first, second in product(cells, cells[::1 + len(cells) // 8]):
                if are_separate(board, first, second) is not separate_by_search(rectangles, first, second):
                    self.fail((board, first, second))

    def test_cell_and_itself(self):
        for board in (B, ((0, LAST),), (None, (5, LAST), None)):
            for at, column in enumerate(board):
                for row in column or ():
                    self.assertIs(are_separate(board, (at, row), (at, row)), False)

    def test_long_columns(self):
        board = ((0, LAST), (5, LAST), None, (0, 9))
        self.assertIs(are_separate(board, (0, 0), (0, LAST)), False)
        self.assertIs(are_separate(board, (0, 5), (1, LAST)), False)
        self.assertIs(are_separate(board, (0, 4), (1, LAST)), True)
        self.assertIs(are_separate(board, (1, LAST), (0, 4)), True)
        self.assertIs(are_separate(board, (1, 5), (0, LAST)), False)
        self.assertIs(are_separate(board, (1, 5), (3, 5)), True)


class BoardTargets(Timed):
    def test_against_search(self):
        for board in SMALL + LARGE + small_boards(4, 1)[::5]:
            with self.subTest(board=board):
                self.assertEqual(repr(board_targets(board)), repr(runs_by_search(board)))

    def test_moved(self):
        for move, board in product(ROWS.values(), SMALL[::5] + LARGE):
            self.assertEqual(board_targets(moved_board(move, board)), runs_by_search(board))

    def test_no_cells(self):
        for many in range(1, 9):
            self.assertEqual(repr(board_targets((None,) * many)), "()")

    def test_columns_beside_each_other_in_other_rows(self):
        self.assertEqual(board_targets(((0, 4), (5, 9))), ((0, 0), (1, 1)))
        self.assertEqual(board_targets(((0, 5), (5, 9))), ((0, 0), (0, 1), (1, 1)))
        self.assertEqual(board_targets(((0, 9), None, (0, 9))), ((0, 0), (2, 2)))


class CoverBoard(Timed):
    def check(self, board):
        with self.subTest(board=board):
            cover = cover_board(board)
            self.assertTrue(correct_cover(board, cover), cover)
            self.assertIs(cover_holds(board, cover), True)
            self.assertEqual(len(cover[0]), count_needed(board_targets(board), ()))
            return len(cover[0])

    def test_against_search(self):
        for board in SMALL:
            self.assertEqual(self.check(board), least_cover(board))

    def test_three_columns(self):
        for board in small_boards(3, 2):
            self.check(board)

    def test_eight_columns(self):
        for board in LARGE:
            self.check(board)

    def test_shapes(self):
        stairs = tuple((0, k) for k in range(8))
        self.assertEqual(self.check(stairs), 8)
        self.assertEqual(self.check(stairs[::-1]), 8)
        self.assertEqual(self.check(tuple((k, k + 3) for k in range(8))), 8)
        self.assertEqual(self.check(((0, 3),) * 8), 1)
        self.assertEqual(self.check(((0, 3), None) * 4), 4)
        self.assertEqual(self.check(((0, 9), (4, 5)) * 4), 5)
        self.assertEqual(self.check(((4, 5), (3, 6), (2, 7), (0, 9), (0, 9), (2, 7), (3, 6), (4, 5))), 4)

    def test_moved(self):
        for how, move in ROWS.items():
            for board in SMALL[::7] + LARGE:
                moved = moved_board(move, board)
                with self.subTest(how, board=board):
                    rectangles, cells = cover_board(moved)
                    self.assertIs(cover_holds(moved, (rectangles, cells)), True)
                    self.assertEqual(len(rectangles), len(cover_board(board)[0]))
                    self.assertTrue(is_rising(rectangles, lambda item: len(item) == 4))
                    self.assertTrue(is_rising(cells, lambda item: len(item) == 2))

    def test_no_cells(self):
        for many in range(1, 9):
            self.assertEqual(repr(cover_board((None,) * many)), "((), ())")

    def test_one_column(self):
        for column in RIGHT_INTERVALS:
            rectangles, cells = cover_board((None, column))
            self.assertEqual(rectangles, ((1, 1) + column,))
            self.assertIs(cover_holds((None, column), (rectangles, cells)), True)

    def test_somewhat_more_columns(self):
        for many in (9, 10):
            self.assertEqual(self.check_cover(tuple((0, k) for k in range(many))), many)
            self.assertEqual(self.check_cover(((0, 9), (4, 5)) * (many // 2) + (None,)), many // 2 + 1)

    def check_cover(self, board):
        rectangles, cells = cover_board(board)
        self.assertIs(cover_holds(board, (rectangles, cells)), True)
        return len(rectangles)

    def test_separate_cells_are_never_more(self):
        for board in SMALL:
            rectangles = rectangles_of(board)
            sets = [()]
            for cell in cells_of(board):
                sets += [rows + (cell,) for rows in sets
                         if all(separate_by_search(rectangles, cell, other) for other in rows)]
            self.assertEqual(len(cover_board(board)[1]), max(map(len, sets)))


PARTS = (
    None, True, False, 0, 1, 2, -1, LAST + 1, 10 ** 29, "", "0", (), [], {}, (0, 0), (0, 1), (1, 1), (2, 2), (-1, 0), (0, 9),
    (0, True), [0, 0], (0,), (0, 0, 0), (0, 0, 0, 0), (0, 1, 0, 0), (0, 2, 0, 0), (1, 1, 0, 2), (0, 1, 0, True),
    (0, 1, 1, 0), [0, 1, 0, 0], (0, 1, 0), (0, 1, 0, 0, 0), ((0, 0),), ((0, 1, 0, 0),),
)


class CoverHolds(Timed):
    def check(self, board, value):
        if cover_holds(board, value) is not correct_cover(board, value):
            self.fail((board, value))

    def check_replaced(self, board):
        cover = cover_board(board)
        self.check(board, cover)
        for value in parts_replaced(cover, PARTS):
            self.check(board, value)

    def test_parts_replaced(self):
        for board in (B, ((0, 0),), (None,), (None, (0, 1), None), ((0, 1), (1, 2)), ((0, 2), (1, 1), (0, 2))):
            self.check_replaced(board)

    def test_parts_replaced_in_others(self):
        for board in SMALL[::40] + LARGE[::60]:
            self.check_replaced(board)

    def test_every_pair_of_small_sets(self):
        for board in (((0, 1), (0, 0)), ((0, 1), (0, 1)), ((0, 1), (1, 1), None), ((0, 0), (1, 1))):
            rectangles, cells = rectangles_of(board), cells_of(board)
            for many in range(len(cells) + 1):
                for pair in product(combinations(sorted(rectangles), many), combinations(cells, many)):
                    self.check(board, pair)

    def test_any_values(self):
        values = NO_TUPLES + ((), ((),), ((), (), ()), ([], []), ((), []), ([], ()), (None, None), ((), None))
        one = ((0, 0, 0, 0),)
        for board, value in product(((None,), ((0, 0),)), values):
            self.check(board, value)
            for other in ((), one, ((0, 0),)):
                self.check(board, (value, other))
                self.check(board, (other, value))
        self.assertIs(cover_holds(((0, 0),), (one, ((0, 0),))), True)
        self.assertIs(cover_holds((None,), ((), ())), True)

    def test_cells_from_the_end(self):
        self.assertIs(cover_holds(((0, 0),), (((0, 0, 0, 0),), ((-1, 0),))), False)
        self.assertIs(cover_holds(((0, 0),), (((-1, 0, 0, 0),), ((0, 0),))), False)

    def test_rows_of_one_column_in_parts(self):
        board = ((0, LAST), (7, 7))
        parts = ((0, 0, 0, LAST), (0, 1, 7, 7))
        self.assertIs(cover_holds(board, (parts, ((0, 5), (1, 7)))), True)
        self.assertIs(cover_holds(board, (((0, 0, 0, LAST - 1), (0, 1, 7, 7)), ((0, 5), (1, 7)))), False)
        self.assertIs(cover_holds(board, (((0, 0, 1, LAST), (0, 1, 7, 7)), ((0, 5), (1, 7)))), False)
        self.assertIs(cover_holds(board, (parts, ((0, 7), (1, 7)))), False)
        self.assertIs(cover_holds(board, (((0, 0, 0, 500), (0, 0, 501, LAST)), ((0, 5), (1, 7)))), False)

    def test_many_items(self):
        rows = tuple((0, 0, k, k) for k in range(150))
        self.assertIs(cover_holds(((0, 149),), (rows, tuple((0, k) for k in range(150)))), False)


class EqualCalls(Timed):
    def test_equal_results(self):
        cover = cover_board(B)
        calls = (
            (is_board, (B,)), (is_board, ([(0, 1), {"a": [None]}],)), (is_rectangle, (B, (0, 1, 0, 1))),
            (is_rectangle, (B, [0, [1], {"a": [0]}])), (are_separate, (B, (0, 1), (1, 2))), (board_targets, (B,)),
            (cover_board, (B,)), (cover_holds, (B, cover)), (cover_holds, (B, ([[0, 1]], [{"a": []}]))),
        )
        self.check_equal_calls(calls)

    def test_equal_results_of_large_calls(self):
        self.check_equal_calls([(cover_board, (board,)) for board in LARGE])


if __name__ == "__main__":
    unittest.main()
