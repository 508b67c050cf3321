import unittest
from itertools import product

from fewspans.errors import BadText, SpanError
from fewspans.texts import interval_text, intervals_text, parse_intervals
from samples import (
    LAST, NO_TUPLES, RIGHT_INTERVALS, WRONG_INTERVALS, WRONG_WORDS, intervals_up_to, points, subsets,
)
from timed import Timed

# All words of at most five characters that are texts of intervals.
SHORT_WORDS = {str(low) + "-" + str(high) for high in range(1000) for low in range(min(high + 1, 100))}


class Texts(Timed):
    def check_raises(self, value, index):
        with self.subTest(value=repr(value)[:60]):
            with self.assertRaises(BadText) as context:
                parse_intervals(value)
            self.assertIs(type(context.exception), BadText)
            self.assertIsInstance(context.exception, SpanError)
            self.assertEqual(repr(context.exception.index), repr(index))


class DocumentExamples(Texts):
    def test_interval_text(self):
        self.assertEqual(repr(interval_text((0, 3))), "'0-3'")

    def test_intervals_text(self):
        self.assertEqual(repr([intervals_text(((0, 1), (2, 5))), intervals_text(())]), "['0-1 2-5', 'none']")

    def test_parse_intervals(self):
        self.check_raises("0-1 0-1", 1)


class MakingTexts(Texts):
    def test_interval_text(self):
        for low, high in intervals_up_to(12) + RIGHT_INTERVALS:
            self.assertEqual(interval_text((low, high)), str(low) + "-" + str(high))
        self.assertEqual(interval_text((0, LAST)), "0-1000000000000")
        self.assertEqual(interval_text((LAST, LAST)), "1000000000000-1000000000000")
        self.assertEqual(interval_text((0, 0)), "0-0")

    def test_intervals_text(self):
        self.assertEqual(intervals_text(((7, 9),)), "7-9")
        self.assertEqual(intervals_text(((7, 9), (0, 1), (7, 9))), "7-9 0-1 7-9")
        self.assertEqual(intervals_text(points(60)), " ".join(f"{k}-{k}" for k in range(60)))
        self.assertEqual(intervals_text(((0, LAST), (LAST, LAST))), "0-1000000000000 1000000000000-1000000000000")


class ParseIntervals(Texts):
    def test_every_tuple_comes_back(self):
        for intervals in subsets(intervals_up_to(3), 10):
            result = parse_intervals(intervals_text(intervals))
            self.assertEqual(repr(result), repr(intervals))

    def test_long_tuples_come_back(self):
        for intervals in (points(300), points(300, LAST - 299), intervals_up_to(25), tuple(sorted(RIGHT_INTERVALS))):
            self.assertEqual(parse_intervals(intervals_text(intervals)), intervals)

    def test_each_interval_comes_back(self):
        for interval in RIGHT_INTERVALS + intervals_up_to(12):
            self.assertEqual(repr(parse_intervals(interval_text(interval))), repr((interval,)))

    def test_none(self):
        self.assertEqual(repr(parse_intervals("none")), "()")
        self.check_raises("none none", 0)
        self.check_raises("none 0-1", 0)
        self.check_raises("0-1 none", 1)
        self.check_raises("none ", 0)
        self.check_raises(" none", 0)

    def test_no_text(self):
        for value in NO_TUPLES + WRONG_INTERVALS + RIGHT_INTERVALS + (("0-1",), ["0-1"], {"0-1": "0-1"}):
            if not isinstance(value, str):
                self.check_raises(value, None)

    def test_other_texts(self):
        for value in NO_TUPLES:
            if isinstance(value, str) and value != "0-1":
                self.check_raises(value, 0)

    def test_wrong_words(self):
        for word in WRONG_WORDS:
            if word != "none":
                self.check_raises(word, 0)
            self.check_raises(word + " 0-1", 0)
            self.check_raises("0-0 " + word, 1)
            self.check_raises("0-0 1-5 " + word + " 7-7", 2)
            self.check_raises("0-0 1-5 " + word + " x", 2)

    def test_all_short_words(self):
        for many in range(1, 6):
            for signs in product("0123-" if many < 5 else "01-", repeat=many):
                word = "".join(signs)
                if word in SHORT_WORDS:
                    self.assertEqual(intervals_text(parse_intervals(word)), word)
                else:
                    self.check_raises(word, 0)

    def test_empty_words(self):
        self.check_raises("", 0)
        self.check_raises(" ", 0)
        self.check_raises("   ", 0)
        self.check_raises(" 0-1", 0)
        self.check_raises("0-1 ", 1)
        self.check_raises("0-1  2-3", 1)
        self.check_raises("0-1 2-3 ", 2)
        self.check_raises("0-1 2-3  4-5", 2)

    def test_spaces_inside_words(self):
        self.check_raises("0 - 1", 0)
        self.check_raises("0- 1", 0)
        self.check_raises("2-3 0 -1", 1)

    def test_order(self):
        self.check_raises("0-1 0-1", 1)
        self.check_raises("0-2 0-1", 1)
        self.check_raises("1-1 0-5", 1)
        self.check_raises("0-1 0-2 0-2", 2)
        self.check_raises("0-1 0-3 0-2 x", 2)
        self.check_raises("0-9 1-1 2-2 1-5", 3)
        self.check_raises("10-11 9-12", 1)
        self.assertEqual(parse_intervals("0-1 0-2 1-1"), ((0, 1), (0, 2), (1, 1)))
        self.assertEqual(parse_intervals("2-2 10-10"), ((2, 2), (10, 10)))
        self.assertEqual(parse_intervals("9-9 9-10"), ((9, 9), (9, 10)))

    def test_first_wrong_word(self):
        self.check_raises("x x", 0)
        self.check_raises("0-1 x 0-1", 1)
        self.check_raises("0-1 0-1 x", 1)

    def test_limits(self):
        self.assertEqual(parse_intervals("0-1000000000000"), ((0, LAST),))
        self.assertEqual(parse_intervals("1000000000000-1000000000000"), ((LAST, LAST),))
        self.check_raises("0-1000000000001", 0)
        self.check_raises("1000000000001-1000000000001", 0)

    def test_somewhat_longer_texts(self):
        self.check_raises("0-" + "1" * 6000, 0)
        self.check_raises("0" * 6000, 0)
        self.check_raises("0-" + "0" * 6000, 0)


class EqualCalls(Texts):
    def test_equal_results(self):
        calls = (
            (interval_text, ((0, 3),)), (intervals_text, (((0, 1), (2, 5)),)), (parse_intervals, ("0-1 2-5",)),
        )
        self.check_equal_calls(calls)

    def test_argument_is_not_changed(self):
        for value in (["0-1"], {"a": ["0-1"]}, (["0-1"],)):
            before = repr(value)
            self.check_raises(value, None)
            self.assertEqual(repr(value), before)


if __name__ == "__main__":
    unittest.main()
