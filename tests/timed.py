"""What several test classes share: a time limit, and the checks of equal calls and of TooWide."""

import copy
import signal
import unittest

from fewspans.errors import SpanError, TooWide


def too_slow(number, frame):
    # A failure would end only the present subtest; this ends the whole run.
    raise KeyboardInterrupt("too slow")


class Timed(unittest.TestCase):
    def setUp(self):
        # A program that goes through long intervals position by position must not run for days.
        signal.signal(signal.SIGALRM, too_slow)
        signal.alarm(60)
        self.addCleanup(signal.alarm, 0)

    def check_equal_calls(self, calls):
        """Check that equal calls return equal results and leave their arguments as they are."""
        for function, arguments in calls:
            with self.subTest(function.__name__):
                before = repr(arguments)
                first = function(*arguments)
                self.assertEqual(repr(function(*copy.deepcopy(arguments))), repr(first))
                self.assertEqual(repr(function(*arguments)), repr(first))
                self.assertEqual(repr(arguments), before)

    def check_too_wide(self, function, *arguments):
        with self.subTest(function.__name__, arguments=arguments):
            with self.assertRaises(TooWide) as context:
                function(*arguments)
            self.assertIs(type(context.exception), TooWide)
            self.assertIsInstance(context.exception, SpanError)
            self.assertEqual(repr(context.exception.bound), "8")
