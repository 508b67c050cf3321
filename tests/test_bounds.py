import unittest

from fewspans import bounds


class Bounds(unittest.TestCase):
    def test_values(self):
        self.assertEqual(bounds.LAST_POSITION, 1000000000000)
        self.assertEqual(bounds.MAX_TARGETS, 24)
        self.assertEqual(bounds.MAX_PIECES, 30)
        self.assertEqual(bounds.MAX_BLOCKS, 8)
        self.assertEqual(bounds.MAX_COLUMNS, 8)
        self.assertEqual(bounds.MAX_EDITS, 60)
        self.assertEqual(bounds.BATCH, 20)

    def test_all_are_ints(self):
        for name in "LAST_POSITION MAX_TARGETS MAX_PIECES MAX_BLOCKS MAX_COLUMNS MAX_EDITS BATCH".split():
            self.assertIs(type(getattr(bounds, name)), int, name)


if __name__ == "__main__":
    unittest.main()
