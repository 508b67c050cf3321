"""Tests of Plan.apply."""

import unittest
from itertools import product

from fewspans.errors import (
    BadEdit, BadEdits, BadInterval, Busy, Duplicate, NothingToUndo, Rejected, TooMany, TooManyEdits, TooWide, Unknown,
)
from fewspans.plans import Plan
from fewspans.shells import Shell
from planned import QUERIES, WORDS, Plans, call, full_plan, sight
from samples import LAST, NO_TUPLES, WRONG_INTERVALS, intervals_up_to, points

EDITS = (("add_target", (0, 1)), ("add_piece", (2, 3)), ("remove_target", (0, 3)), ("remove_piece", (2, 3)))

WRONG_EDITS = NO_TUPLES + WRONG_INTERVALS + (
    ("add_target",), ("add_target", (0, 1), None), ("add_target", 0, 1), ["add_target", (0, 1)], {"add_target": (0, 1)},
    ("add", (0, 1)), ("undo", (0, 1)), ("undo", None), ("apply", ()), ("targets", (0, 1)), ("", (0, 1)), (None, (0, 1)),
    (True, (0, 1)), (0, (0, 1)), (["add_target"], (0, 1)), (("add_target",), (0, 1)), ({}, (0, 1)), ((), ()),
    ("Add_target", (0, 1)), ("add_target ", (0, 1)), (" add_target", (0, 1)), ("add_target\n", (0, 1)), ("target", (0, 1)),
    ("add_targets", (0, 1)), ("add_", (0, 1)), ((0, 1), "add_target"), (("add_target", (0, 1)),), ("__init__", (0, 1)),
    ("add_target add_piece", (0, 1)), ("needed", None), ("edit", (0, 1)), ("record", (0, 1)),
)

FALSE_VALUES = (None, False, 0, "", (), [], {})
TRUE_VALUES = (True, 1, -1, "0", (0,), [0], {"a": 0}, "False")


class Refusal(Exception):
    """An error that only check raises."""


def some_plan():
    plan = Plan(((0, 3),), ((0, 1),))
    plan.add_piece((7, 9))
    return plan


def yes(plan):
    return True


class Batches(Plans):
    def check_usable(self, plan):
        """Check that the plan accepts edits of all kinds, and go back to where it was."""
        before = sight(plan)
        interval = (501, 502)
        version = len(plan)
        self.assertEqual(plan.add_target(interval), version + 1)
        self.assertEqual(plan.remove_target(interval), version + 2)
        self.assertEqual(plan.add_piece(interval), version + 3)
        self.assertEqual(plan.remove_piece(interval), version + 4)
        self.assertEqual(plan.apply([("add_target", interval)], check=yes), version + 5)
        for turn in range(5):
            plan.undo()
        self.assertEqual(sight(plan), before)

    def check_refused(self, plan, error, fields, edits, check=None):
        raised = self.check_kept(plan, error, fields, "apply", edits, check=check)
        self.check_usable(plan)
        return raised


class DocumentExample(Batches):
    def test_apply(self):
        edits = [("add_target", (0, 1)), ("add_target", (0, 1))]
        error = self.check_refused(Plan((), ()), Rejected, {"index": 1}, edits)
        self.assertIs(type(error.__cause__), Duplicate)


class Doing(Batches):
    def test_lists_and_tuples(self):
        for edits in (EDITS, list(EDITS)):
            plan = some_plan()
            self.assertEqual(repr(plan.apply(edits)), "5")
            self.assertEqual(plan.targets(), ((0, 1),))
            self.assertEqual(plan.pieces(), ((0, 1), (7, 9)))
            self.assertEqual(plan.edits(), (("add_piece", (7, 9)),) + EDITS)
            self.assertEqual(plan.targets(version=2), ((0, 1), (0, 3)))
            self.assertEqual(repr(list(edits)), repr(list(EDITS)))

    def test_each_edit_can_be_undone(self):
        plan = some_plan()
        alone = some_plan()
        seen = [sight(alone)]
        for word, interval in EDITS:
            call(alone, word, interval)
            seen.append(sight(alone))
        plan.apply(EDITS)
        for before in seen[:0:-1]:
            self.assertEqual(sight(plan), before)
            plan.undo()
        self.assertEqual(sight(plan), seen[0])

    def test_empty_batches(self):
        for edits in ([], ()):
            plan = some_plan()
            before = sight(plan)
            calls = []
            self.assertEqual(repr(plan.apply(edits)), "1")
            self.assertEqual(repr(plan.apply(edits, check=calls.append)), "1")
            self.assertEqual(calls, [])
            self.assertEqual(sight(plan), before)
            self.assertEqual(Plan((), ()).apply(edits), 0)
            self.check_usable(plan)

    def test_empty_batch_in_a_full_plan(self):
        self.assertEqual(full_plan().apply([]), 60)

    def test_twenty_edits(self):
        edits = [("add_piece", interval) for interval in points(20)]
        for given in (edits, tuple(edits)):
            plan = Plan((), ())
            self.assertEqual(plan.apply(given), 20)
            self.assertEqual(plan.pieces(), points(20))
            self.assertEqual(plan.edits(), tuple(edits))

    def test_none_as_check(self):
        self.assertEqual(some_plan().apply(EDITS, check=None), 5)


class WrongBatches(Batches):
    def test_bad_edits(self):
        for value in NO_TUPLES:
            if not isinstance(value, list):
                self.check_refused(some_plan(), BadEdits, {}, value)
                self.check_refused(some_plan(), BadEdits, {}, value, check=self.fail)

    def test_twenty_one_edits(self):
        edits = [("add_piece", interval) for interval in points(21)]
        for given in (edits, tuple(edits), [None] * 21, (0,) * 1000, list(EDITS) * 6):
            self.check_refused(some_plan(), BadEdits, {}, given, check=self.fail)

    def test_bad_edit(self):
        for wrong in WRONG_EDITS:
            for edits, index in (([wrong], 0), ((wrong, wrong), 0), ([EDITS[0], wrong], 1), (EDITS + (wrong,), 4),
                                 ([*EDITS, wrong, EDITS[0], None], 4)):
                self.check_refused(some_plan(), BadEdit, {"index": index}, edits, check=self.fail)

    def test_bad_edit_before_rejected(self):
        edits = [("add_target", None), ("remove_target", (8, 9)), ("add_target", (0, 3)), None]
        self.check_refused(some_plan(), BadEdit, {"index": 3}, edits)
        plan = full_plan()
        self.check_kept(plan, BadEdit, {"index": 1}, "apply", [EDITS[0], 5])

    def test_wrong_lists_as_edits(self):
        for value in NO_TUPLES:
            if isinstance(value, list) and value and len(value) <= 20:
                self.check_refused(some_plan(), BadEdit, {"index": 0}, value)


class RejectedBatches(Batches):
    def check_rejected(self, plan, edits, index, cause, fields):
        before = sight(plan)
        seen = []
        error = self.check_kept(plan, Rejected, {"index": index}, "apply", edits)
        self.assertIs(type(error.__cause__), cause)
        for name, value in fields.items():
            self.assertEqual(repr(getattr(error.__cause__, name)), repr(value))
        error = self.check_raises(
            Rejected, {"index": index}, plan.apply, tuple(edits), check=lambda plan: seen.append(len(plan)) or True,
        )
        self.assertIs(type(error.__cause__), cause)
        self.assertEqual(seen, [len(plan) + 1 + at for at in range(index)])
        self.assertEqual(sight(plan), before)
        return error.__cause__

    def test_each_error(self):
        self.check_rejected(some_plan(), [EDITS[0], EDITS[0]], 1, Duplicate, {"value": (0, 1)})
        self.check_rejected(some_plan(), [("add_piece", (0, 1))], 0, Duplicate, {"value": (0, 1)})
        self.check_rejected(some_plan(), [*EDITS, ("remove_piece", (2, 3))], 4, Unknown, {"value": (2, 3)})
        self.check_rejected(some_plan(), [EDITS[1], ("remove_target", (2, 3))], 1, Unknown, {"value": (2, 3)})
        plan = Plan(points(23), points(29))
        edits = [("add_target", (90, 91)), ("add_piece", (90, 91)), ("add_target", (90, 92))]
        self.check_rejected(plan, edits, 2, TooMany, {"bound": 24})
        edits[2] = ("add_piece", (90, 92))
        self.check_rejected(plan, edits, 2, TooMany, {"bound": 30})

    def test_intervals_may_be_any_values(self):
        for value in WRONG_INTERVALS:
            for word in WORDS:
                cause = BadInterval if word.startswith("add") else Unknown
                error = self.check_rejected(some_plan(), [EDITS[0], (word, value)], 1, cause, {"value": value})
                self.assertTrue(error.value is value)

    def test_true_is_not_one(self):
        plan = Plan(((0, 1),), ((0, 1),))
        for value in ((0, True), (False, 1)):
            self.check_rejected(plan, [("remove_target", value)], 0, Unknown, {"value": value})
            self.check_rejected(plan, [("add_target", value)], 0, BadInterval, {"value": value})

    def test_too_many_edits(self):
        plan = full_plan()
        self.check_rejected(plan, [("add_target", (80, 81))], 0, TooManyEdits, {})
        plan.undo()
        plan.undo()
        edits = [("add_target", (80, 80 + k)) for k in range(20)]
        self.check_rejected(plan, edits[:3], 2, TooManyEdits, {})
        self.check_rejected(plan, edits, 2, TooManyEdits, {})
        self.check_rejected(plan, edits[:2] + [("add_target", None)], 2, TooManyEdits, {})
        self.assertEqual(plan.apply(edits[:2]), 60)

    def test_usable_afterwards(self):
        plan = some_plan()
        for edits in ([EDITS[0], EDITS[0]], [("add_target", None)], [EDITS[2], EDITS[2]]):
            self.check_refused(plan, Rejected, {}, edits)
            self.check_refused(plan, Rejected, {}, edits, check=yes)


class Checking(Batches):
    def test_called_after_each_edit_with_this_plan(self):
        plan = some_plan()
        seen = []

        def check(given):
            self.assertTrue(given is plan)
            seen.append(sight(given))
            return True

        self.assertEqual(plan.apply(EDITS, check=check), 5)
        alone = some_plan()
        for (word, interval), before in zip(EDITS, seen, strict=True):
            call(alone, word, interval)
            self.assertEqual(sight(alone), before)

    def test_true_values(self):
        for value in TRUE_VALUES:
            plan = some_plan()
            self.assertEqual(repr(plan.apply(EDITS, check=lambda plan: value)), "5")
            self.assertEqual(plan.edits()[1:], EDITS)
            self.check_usable(plan)

    def test_the_plan_itself_is_true(self):
        plan = Plan((), ())
        self.assertEqual(plan.apply([EDITS[0]], check=lambda plan: plan), 1)

    def test_false_values_at_each_edit(self):
        for value, many in product(FALSE_VALUES, range(1, 5)):
            plan = some_plan()
            before = sight(plan)
            calls = []

            def check(given):
                calls.append(len(given))
                return value if len(calls) == many else "yes"

            self.assertIs(plan.apply(list(EDITS), check=check), None)
            self.assertEqual(calls, list(range(2, many + 2)))
            self.assertEqual(sight(plan), before)
            self.check_usable(plan)

    def test_false_before_a_wrong_edit(self):
        plan = some_plan()
        self.assertIs(plan.apply([EDITS[0], EDITS[0]], check=lambda plan: False), None)
        self.assertIs(plan.apply([EDITS[0], ("add_target", None)], check=lambda plan: 0), None)
        self.check_usable(plan)

    def test_raising(self):
        for kind in (Refusal, ValueError, KeyError, LookupError, TypeError, Busy, NothingToUndo, KeyboardInterrupt, StopIteration):
            for many in range(1, 5):
                plan = some_plan()
                before = sight(plan)
                calls = []
                error = kind()

                def check(given):
                    calls.append(len(given))
                    if len(calls) == many:
                        raise error
                    return True

                with self.assertRaises(kind) as context:
                    plan.apply(EDITS, check=check)
                self.assertTrue(context.exception is error)
                self.assertIs(error.__cause__, None)
                self.assertEqual(calls, list(range(2, many + 2)))
                self.assertEqual(sight(plan), before)
                self.check_usable(plan)

    def test_raising_an_error_of_an_edit(self):
        def check(plan):
            raise Rejected(17)

        plan = some_plan()
        self.check_refused(plan, Rejected, {"index": 17}, EDITS, check=check)

        def wide(plan):
            return plan.needed() >= 0

        plan = Plan(points(8), ())
        self.check_kept(plan, TooWide, {"bound": 8}, "apply", [("add_piece", (50, 50))], check=wide)
        self.assertEqual(plan.apply([("add_piece", (3, 3))], check=wide), 1)


class WhileChecking(Batches):
    def busy_calls(self, plan):
        for word, value in product(WORDS, ((50, 51), (0, 3), (0, 1), None, (0, True), [])):
            yield getattr(plan, word), (value,), {}
        yield plan.undo, (), {}
        for edits in ([], (), EDITS, [None], None, 5, [EDITS[0]] * 30):
            yield plan.apply, (edits,), {}
            yield plan.apply, (edits,), {"check": self.fail}

    def test_busy(self):
        plan = some_plan()
        seen = []

        def check(given):
            before = sight(given)
            for function, arguments, keywords in self.busy_calls(given):
                self.check_raises(Busy, {}, function, *arguments, **keywords)
            self.assertEqual(sight(given), before)
            seen.append(before)
            return True

        self.assertEqual(plan.apply(EDITS, check=check), 5)
        self.assertEqual(len(seen), 4)
        self.assertEqual(plan.edits()[1:], EDITS)
        self.check_usable(plan)

    def test_busy_comes_before_too_many_edits_and_nothing_to_undo(self):
        plan = full_plan()
        plan.undo()

        def check(given):
            for word in WORDS:
                self.check_raises(Busy, {}, getattr(given, word), None)
            return True

        self.assertEqual(plan.apply([("add_target", (50, 51))], check=check), 60)
        self.check_kept(plan, TooManyEdits, {}, "add_target", (50, 52))

    def test_busy_goes_through(self):
        for name, arguments in (("undo", ()), ("add_target", ((50, 51),)), ("apply", ([],))):
            plan = some_plan()
            self.check_refused(plan, Busy, {}, EDITS, check=lambda given: call(given, name, *arguments))

    def test_caught_busy_changes_nothing(self):
        plan = some_plan()

        def check(given):
            try:
                given.undo()
            except Busy:
                return len(given)

        self.assertEqual(plan.apply(EDITS, check=check), 5)
        self.check_usable(plan)

    def test_queries(self):
        plan = Plan(((0, 3),), ())
        seen = []

        def check(given):
            new = Plan(given.targets(), given.pieces())
            for query in QUERIES:
                self.assertEqual(call(given, query), call(new, query))
                self.assertEqual(call(given, query, version=0), call(Plan(((0, 3),), ()), query))
                self.assertEqual(call(given, query, version=len(given)), call(given, query))
                with self.assertRaises(LookupError):
                    call(given, query, version=len(given) + 1)
            self.assertTrue(given == new)
            seen.append((len(given), str(given), given.edits(), given.changes()))
            return True

        edits = (("add_target", (0, 1)), ("add_piece", (0, 1)))
        plan.apply(edits, check=check)
        self.assertEqual(seen, [
            (1, "2 targets, 0 pieces, 1 edits", edits[:1], (1,)),
            (2, "2 targets, 1 pieces, 2 edits", edits, (1, -1)),
        ])

    def test_changed_list_of_edits(self):
        def clear(edits):
            edits.clear()

        def replace(edits):
            edits[:] = [("add_target", None)] * 4

        def extend(edits):
            edits.extend([("add_target", (90, 90)), None])

        def turn(edits):
            edits.reverse()

        for change in (clear, replace, extend, turn):
            plan = some_plan()
            edits = list(EDITS)
            self.assertEqual(plan.apply(edits, check=lambda given: change(edits) or True), 5)
            self.assertEqual(plan.edits()[1:], EDITS)

    def test_list_that_is_changed_later(self):
        plan = some_plan()
        edits = list(EDITS)
        plan.apply(edits)
        before = sight(plan)
        edits.clear()
        self.assertEqual(sight(plan), before)

    def test_other_plans_are_not_busy(self):
        plan, other = some_plan(), some_plan()

        def check(given):
            other.add_target((len(other), 90))
            self.assertEqual(other.apply([("add_piece", (len(other), 90))], check=yes), len(other))
            return True

        self.assertEqual(plan.apply(EDITS, check=check), 5)
        self.assertEqual(len(other), 9)

    def test_batch_inside_a_batch_of_another_plan(self):
        plan, other = some_plan(), some_plan()

        def inner(given):
            self.check_raises(Busy, {}, plan.undo)
            self.check_raises(Busy, {}, other.undo)
            return False

        def outer(given):
            self.assertIs(other.apply(EDITS, check=inner), None)
            self.check_usable(other)
            self.check_raises(Busy, {}, plan.undo)
            return True

        self.assertEqual(plan.apply(EDITS, check=outer), 5)
        self.check_usable(plan)

    def test_shell(self):
        plan = some_plan()
        shell = Shell(plan)
        answers = []

        def check(given):
            answers.append([shell.execute(line) for line in ("undo", "piece 0-0", "targets", "target x")])
            return True

        plan.apply(EDITS[:1], check=check)
        self.assertEqual(answers, [["error Busy", "error Busy", "0-1 0-3", "unknown command"]])

    def test_many_rounds(self):
        plan = Plan((), ())
        intervals = intervals_up_to(6)
        for turn in range(1, 19):
            edits = [("add_piece", interval) for interval in intervals[:turn]]
            self.assertIs(plan.apply(edits, check=lambda given: len(given) < turn), None)
            self.check_raises(Rejected, {"index": turn}, plan.apply, edits + edits[:1])
            self.assertEqual(sight(plan), sight(Plan((), ())))
        self.assertEqual(plan.apply([("add_piece", (LAST, LAST))]), 1)


if __name__ == "__main__":
    unittest.main()
