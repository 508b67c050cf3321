import unittest
from itertools import chain, permutations, product

from fewspans.blocks import block_index, compress, find_blocks
from samples import LAST, MOVES, counted_blocks, intervals_up_to, scattered
from timed import Timed


def counted_index(blocks, position):
    found = [index for index, (low, high) in enumerate(blocks) if position in range(low, high + 1)]
    return found[0] if found else None


# Each row: the intervals, their blocks, what compress returns.
ROWS = {
    "none": ((), (), ()),
    "one": (((3, 7),), ((3, 7),), ((0, 0),)),
    "one position": (((4, 4),), ((4, 4),), ((0, 0),)),
    "repeated": (((3, 7), (3, 7), (3, 7)), ((3, 7),), ((0, 0), (0, 0), (0, 0))),
    "nested": (((0, 9), (4, 5)), ((0, 3), (4, 5), (6, 9)), ((0, 2), (1, 1))),
    "nested at low": (((0, 9), (0, 5)), ((0, 5), (6, 9)), ((0, 1), (0, 0))),
    "nested at high": (((0, 9), (5, 9)), ((0, 4), (5, 9)), ((0, 1), (1, 1))),
    "touching": (((0, 4), (5, 9)), ((0, 4), (5, 9)), ((0, 0), (1, 1))),
    "touching in a third": (((0, 9), (0, 4), (5, 9)), ((0, 4), (5, 9)), ((0, 1), (0, 0), (1, 1))),
    "overlapping": (((0, 5), (4, 9)), ((0, 3), (4, 5), (6, 9)), ((0, 1), (1, 2))),
    "one common position": (((0, 5), (5, 9)), ((0, 4), (5, 5), (6, 9)), ((0, 1), (1, 2))),
    "separate": (((0, 1), (3, 4), (8, 9)), ((0, 1), (3, 4), (8, 9)), ((0, 0), (1, 1), (2, 2))),
    "separate with repeats": (((8, 9), (0, 1), (8, 9)), ((0, 1), (8, 9)), ((1, 1), (0, 0), (1, 1))),
}


class Blocks(Timed):
    def check_against_count(self, intervals):
        blocks = counted_blocks(intervals)
        self.assertEqual(find_blocks(intervals), blocks)
        top = blocks[-1][1] if blocks else 0
        for position in range(top + 3):
            self.assertEqual(block_index(intervals, position), counted_index(blocks, position))
        ends = tuple((counted_index(blocks, low), counted_index(blocks, high)) for low, high in intervals)
        self.assertEqual(compress(intervals), ends)

    def test_document_examples(self):
        result = [find_blocks(((5, 20), (2, 9))), find_blocks(((0, 9), (4, 5)))]
        self.assertEqual(repr(result), "[((2, 4), (5, 9), (10, 20)), ((0, 3), (4, 5), (6, 9))]")
        result = [block_index(((5, 20), (2, 9)), 7), block_index(((5, 20), (2, 9)), 1)]
        self.assertEqual(repr(result), "[1, None]")
        self.assertEqual(repr(compress(((5, 20), (2, 9)))), "((1, 2), (0, 1))")

    def test_rows(self):
        for (name, (intervals, blocks, ends)), (how, move) in product(ROWS.items(), MOVES.items()):
            with self.subTest(name, how=how):
                moved = tuple(map(move, intervals))
                self.assertEqual(repr(find_blocks(moved)), repr(tuple(map(move, blocks))))
                self.assertEqual(repr(compress(moved)), repr(ends))

    def test_rows_in_every_order(self):
        for (name, (intervals, blocks, ends)), (how, move) in product(ROWS.items(), MOVES.items()):
            for pairs in permutations(zip(intervals, ends)):
                moved = tuple(move(interval) for interval, pair in pairs)
                with self.subTest(name, how=how, moved=moved):
                    self.assertEqual(find_blocks(moved), tuple(map(move, blocks)))
                    self.assertEqual(compress(moved), tuple(pair for interval, pair in pairs))

    def test_all_short_intervals_against_count(self):
        for intervals in chain(*(product(intervals_up_to(3), repeat=many) for many in range(4))):
            with self.subTest(intervals=intervals):
                self.check_against_count(intervals)

    def test_pairs_against_count(self):
        for intervals in product(intervals_up_to(6), repeat=2):
            with self.subTest(intervals=intervals):
                self.check_against_count(intervals)

    def test_many_intervals_against_count(self):
        for many, step, length in product((5, 24, 30, 59, 60), (3, 5, 7), (1, 2, 5)):
            for last in (20, 90, 400):
                intervals = scattered(many, step, length, last)
                for given in (intervals, intervals[::-1], tuple(sorted(intervals))):
                    with self.subTest(many=many, step=step, length=length, last=last):
                        self.check_against_count(given)

    def test_many_long_intervals(self):
        width = 10 ** 10
        for step, length in product((3, 5, 7), (1, 2, 5)):
            intervals = scattered(60, step, length, 90)
            wide = tuple((low * width, high * width + width - 1) for low, high in intervals)
            blocks = counted_blocks(intervals)
            with self.subTest(step=step, length=length):
                self.assertEqual(find_blocks(wide), tuple((a * width, b * width + width - 1) for a, b in blocks))
                self.assertEqual(compress(wide), compress(intervals))
                for position in range(93):
                    index = counted_index(blocks, position)
                    for inside in (0, 1, width // 2, width - 1):
                        self.assertEqual(block_index(wide, position * width + inside), index)

    def test_sixty_nested_intervals(self):
        intervals = tuple((k, LAST - k) for k in range(60))
        blocks = find_blocks(intervals)
        self.assertEqual(len(blocks), 119)
        self.assertEqual(blocks[0], (0, 0))
        self.assertEqual(blocks[59], (59, LAST - 59))
        self.assertEqual(blocks[118], (LAST, LAST))
        self.assertEqual(compress(intervals), tuple((k, 118 - k) for k in range(60)))
        self.assertEqual(block_index(intervals, LAST // 2), 59)
        self.assertEqual(block_index(intervals, LAST - 7), 111)

    def test_edges_of_the_positions(self):
        self.assertEqual(find_blocks(((0, LAST),)), ((0, LAST),))
        self.assertEqual(find_blocks(((0, 0), (LAST, LAST))), ((0, 0), (LAST, LAST)))
        whole = ((LAST, LAST), (0, LAST), (0, 0))
        self.assertEqual(find_blocks(whole), ((0, 0), (1, LAST - 1), (LAST, LAST)))
        self.assertEqual(compress(whole), ((2, 2), (0, 2), (0, 0)))

    def test_index_of_positions_inside_between_and_beyond(self):
        intervals = ((10 ** 9, 10 ** 10), (5, 9), (10 ** 11, LAST - 1), (7, 12))
        rows = (
            (0, None), (4, None), (5, 0), (6, 0), (7, 1), (9, 1), (10, 2), (12, 2), (13, None), (10 ** 9 - 1, None),
            (10 ** 9, 3), (5 * 10 ** 9, 3), (10 ** 10, 3), (10 ** 10 + 1, None), (10 ** 11 - 1, None),
            (10 ** 11, 4), (LAST - 1, 4), (LAST, None),
        )
        for position, index in rows:
            with self.subTest(position=position):
                self.assertEqual(repr(block_index(intervals, position)), repr(index))

    def test_index_without_intervals(self):
        for position in (0, 1, LAST):
            self.assertIs(block_index((), position), None)

    def test_equal_calls_return_equal_results(self):
        for intervals in (scattered(60, 3, 5, 90), ((5, 20), (2, 9)), ()):
            before = repr(intervals)
            again = tuple((low, high) for low, high in intervals)
            self.assertEqual(repr(find_blocks(intervals)), repr(find_blocks(again)))
            self.assertEqual(repr(compress(intervals)), repr(compress(again)))
            self.assertEqual(repr(block_index(intervals, 7)), repr(block_index(again, 7)))
            self.assertEqual(repr(intervals), before)


if __name__ == "__main__":
    unittest.main()
