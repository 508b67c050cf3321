"""Boards: columns of cells, and their smallest covers by rectangles.

Columns may have very many rows, so only the blocks of the columns are looked at, never each row.
"""

from fewspans.blocks import find_blocks
from fewspans.bounds import MAX_COLUMNS
from fewspans.generating import generates
from fewspans.intervals import contains, has_position, is_ascending, is_interval, is_number, is_tuple_of
from fewspans.solving import smallest_solution


def is_board(value):
    """Return whether any value is a tuple of 1 to MAX_COLUMNS columns, each None or an interval."""
    if not isinstance(value, tuple) or not 1 <= len(value) <= MAX_COLUMNS:
        return False
    return all([column is None or is_interval(column) for column in value])


def is_rectangle(board, value):
    """Return whether any value is a rectangle (left, right, bottom, top) of the board."""
    if not is_tuple_of(value, 4) or not all([is_number(item) for item in value]):
        return False
    left, right, bottom, top = value
    if not 0 <= left <= right < len(board) or bottom > top:
        return False
    columns = board[left:right + 1]
    return all([column is not None and contains(column, (bottom, top)) for column in columns])


def is_cell(board, value):
    """Return whether any value is a cell (column, row) of the board."""
    if not is_tuple_of(value, 2):
        return False
    column, row = value
    # A cell is the same as a rectangle of one cell.
    return is_rectangle(board, (column, column, row, row))


def are_separate(board, first, second):
    """Return whether no rectangle of the board contains both cells."""
    left, right = sorted([first[0], second[0]])
    bottom, top = sorted([first[1], second[1]])
    # Each rectangle that contains both contains this one.
    return not is_rectangle(board, (left, right, bottom, top))


def row_runs(board, row):
    """Return the runs of the row from left to right."""
    runs = []
    for index, column in enumerate(board):
        if column is None or not has_position(column, row):
            continue
        if runs and runs[-1][1] == index - 1:
            runs[-1] = (runs[-1][0], index)
        else:
            runs.append((index, index))
    return runs


def rows_of_runs(board):
    """Return, for each run of the board, the lowest row that has it."""
    rows = {}
    # All rows of a block have cells in the same columns, so the first one shows the runs of all.
    for row, last in find_blocks(tuple([column for column in board if column is not None])):
        for run in row_runs(board, row):
            rows.setdefault(run, row)
    return rows


def board_targets(board):
    """Return the ascending tuple of the runs of all rows."""
    return tuple(sorted(rows_of_runs(board)))


def tallest_rectangle(board, piece):
    """Return the rectangle in the columns of the piece that has all rows which these columns share."""
    left, right = piece
    columns = board[left:right + 1]
    return (left, right, max([bottom for bottom, top in columns]), min([top for bottom, top in columns]))


def cover_board(board):
    """Return the least number of rectangles that contain all cells, and as many cells that are separate."""
    rows = rows_of_runs(board)
    pieces, witnesses = smallest_solution(tuple(sorted(rows)), ())
    # Both stay ascending: the pieces differ in their columns, and witnesses at one position would conflict.
    rectangles = tuple([tallest_rectangle(board, piece) for piece in pieces])
    return (rectangles, tuple([(column, rows[run]) for column, run in witnesses]))


def contain_all_cells(board, rectangles):
    """Return whether each cell of the board lies in one of its rectangles."""
    for index, column in enumerate(board):
        spans = [(bottom, top) for left, right, bottom, top in rectangles if left <= index <= right]
        if column is not None and not generates(spans, column):
            return False
    return True


def all_separate(board, cells):
    """Return whether every two of the cells are separate."""
    for index, first in enumerate(cells):
        if not all([are_separate(board, first, second) for second in cells[:index]]):
            return False
    return True


def cover_holds(board, value):
    """Return whether any value is a correct cover: rectangles, and as many separate cells."""
    if not is_tuple_of(value, 2):
        return False
    rectangles, cells = value
    if not is_ascending(rectangles, lambda item: is_rectangle(board, item)):
        return False
    if not is_ascending(cells, lambda item: is_cell(board, item)) or len(rectangles) != len(cells):
        return False
    return contain_all_cells(board, rectangles) and all_separate(board, cells)
