import unittest
from itertools import product
from random import Random

from fewspans.errors import (
    BadInterval, BadPieces, BadTargets, Duplicate, NothingToUndo, NoVersion, SpanError, TooMany, TooManyEdits, TooWide,
    Unknown,
)
from fewspans.generating import find_missing
from fewspans.intervals import is_pieces, is_targets, targets_error
from fewspans.plans import Plan
from fewspans.solving import count_needed, solution_holds, solve
from planned import ADDING, QUERIES, WORDS, Plans, call, full_plan, sight
from samples import LAST, NO_TUPLES, RIGHT_INTERVALS, WRONG_INTERVALS, intervals_up_to, points
from timed import Timed

# None of these is a version of a plan with three edits.
WRONG_VERSIONS = (
    True, False, -1, -2, 4, 5, 60, 61, LAST, 10 ** 29, -(10 ** 29), "", "0", "1", "None", [], [0], (), (0,), (0, 1), {}, {"0": 0},
)


class DocumentExamples(Plans):
    def test_plan(self):
        self.assertEqual(repr(str(Plan(((0, 1), (0, 3)), ()))), "'2 targets, 0 pieces, 0 edits'")

    def test_adding(self):
        self.check_raises(Duplicate, {"value": (0, 3)}, Plan(((0, 3),), ()).add_target, (0, 3))

    def test_removing(self):
        plan = Plan(((0, 3),), ())
        self.assertEqual(repr([plan.remove_target((0, 3)), plan.targets()]), "[1, ()]")

    def test_undo(self):
        plan = Plan((), ())
        self.assertEqual(repr([plan.add_piece((1, 2)), plan.undo(), plan.pieces()]), "[1, 0, ()]")

    def test_targets_and_pieces(self):
        plan = Plan(((0, 3),), ())
        result = [plan.add_target((0, 1)), plan.targets(), plan.targets(version=0)]
        self.assertEqual(repr(result), "[1, ((0, 1), (0, 3)), ((0, 3),)]")

    def test_needed_and_missing(self):
        plan = Plan(((0, 1), (0, 3)), ((0, 1),))
        self.assertEqual(repr([plan.needed(), plan.missing()]), "[1, (2, (0, 3))]")

    def test_edits(self):
        plan = Plan((), ())
        self.assertEqual(repr([plan.add_piece((1, 3)), plan.edits()]), "[1, (('add_piece', (1, 3)),)]")

    def test_changes(self):
        plan = Plan(((0, 1),), ())
        self.assertEqual(repr([plan.add_piece((0, 1)), plan.changes()]), "[1, (-1,)]")

    def test_len_and_equality(self):
        self.assertEqual(repr([len(Plan((), ())), Plan((), ()) == Plan((), ())]), "[0, True]")


class MakingPlans(Plans):
    def test_right_values(self):
        for targets, pieces in (((), ()), (points(24), points(30)), ((), points(30)), (points(24), ()), (
            tuple(sorted(RIGHT_INTERVALS)), tuple(sorted(RIGHT_INTERVALS)),
        )):
            plan = Plan(targets, pieces)
            self.assertEqual((plan.targets(), plan.pieces(), plan.edits(), len(plan)), (targets, pieces, (), 0))

    def test_wrong_targets(self):
        values = NO_TUPLES + WRONG_INTERVALS + tuple((wrong,) for wrong in WRONG_INTERVALS) + (
            points(25), points(25)[::-1], ((0, 1), (0, 1)), ((0, 3), (0, 1)), [(0, 1)], list(points(3)),
            ((0, 1), (0, 3), (0, 2), None), points(23) + (None,),
        )
        for value in values:
            if not is_targets(value):
                for pieces in ((), None, [], points(31)):
                    self.check_raises(BadTargets, {"error": targets_error(value)}, Plan, value, pieces)

    def test_wrong_pieces(self):
        values = NO_TUPLES + WRONG_INTERVALS + tuple((wrong,) for wrong in WRONG_INTERVALS) + (
            points(31), ((0, 1), (0, 1)), ((0, 3), (0, 1)), [(0, 1)],
        )
        for value in values:
            if not is_pieces(value):
                for targets in ((), points(24)):
                    self.check_raises(BadPieces, {}, Plan, targets, value)

    def test_wrong_targets_come_first(self):
        self.check_raises(BadTargets, {"error": (0, "interval")}, Plan, (None,), None)
        self.check_raises(BadTargets, {"error": (None, "tuple")}, Plan, points(25), points(31))
        self.check_raises(BadTargets, {"error": (1, "order")}, Plan, ((0, 1), (0, 1)), ((0, 1), (0, 1)))


class Adding(Plans):
    def test_order_and_version(self):
        plan = Plan(((2, 5),), ((2, 5),))
        for version, interval in enumerate(((9, 9), (0, 1), (2, 4), (LAST, LAST), (0, LAST)), start=1):
            self.assertEqual(repr(plan.add_target(interval)), repr(2 * version - 1))
            self.assertEqual(repr(plan.add_piece(interval)), repr(2 * version))
        whole = ((0, 1), (0, LAST), (2, 4), (2, 5), (9, 9), (LAST, LAST))
        self.assertEqual(repr([plan.targets(), plan.pieces()]), repr([whole, whole]))

    def test_target_and_piece_do_not_meet(self):
        plan = Plan(((0, 1),), ())
        self.assertEqual(plan.add_piece((0, 1)), 1)
        self.assertEqual(plan.remove_target((0, 1)), 2)
        self.assertEqual((plan.targets(), plan.pieces()), ((), ((0, 1),)))

    def test_bad_interval(self):
        for word, value in product(ADDING, WRONG_INTERVALS):
            for plan in (Plan((), ()), Plan(((0, 1), (1, 1)), ((0, 1), (1, 1))), Plan(points(24), points(30))):
                error = self.check_kept(plan, BadInterval, {"value": value}, word, value)
                self.assertTrue(error.value is value)

    def test_duplicate(self):
        for word in ADDING:
            for interval in RIGHT_INTERVALS:
                plan = Plan((interval,), (interval,))
                self.check_kept(plan, Duplicate, {"value": interval}, word, interval)
            plan = Plan((), ())
            call(plan, word, (0, 3))
            self.check_kept(plan, Duplicate, {"value": (0, 3)}, word, (0, 3))

    def test_too_many(self):
        self.check_kept(Plan(points(24), ()), TooMany, {"bound": 24}, "add_target", (99, 99))
        self.check_kept(Plan((), points(30)), TooMany, {"bound": 30}, "add_piece", (99, 99))
        plan = Plan(points(23), points(29))
        self.assertEqual([plan.add_target((99, 99)), plan.add_piece((99, 99))], [1, 2])
        self.check_kept(plan, TooMany, {"bound": 24}, "add_target", (50, 50))
        self.check_kept(plan, TooMany, {"bound": 30}, "add_piece", (50, 50))
        plan.remove_target((0, 0))
        self.assertEqual(plan.add_target((50, 50)), 4)

    def test_duplicate_before_too_many(self):
        plan = Plan(points(24), points(30))
        for word in ADDING:
            self.check_kept(plan, Duplicate, {"value": (5, 5)}, word, (5, 5))
            self.check_kept(plan, BadInterval, {"value": (5, 4)}, word, (5, 4))

    def test_true_is_not_one(self):
        plan = Plan(((0, 1),), ((0, 1),))
        for word, value in product(ADDING, ((0, True), (False, 1), (False, True))):
            self.check_kept(plan, BadInterval, {"value": value}, word, value)


class Removing(Plans):
    def test_versions_and_rest(self):
        plan = Plan(((0, 1), (0, 3), (2, 3)), ((0, 1), (0, 3), (2, 3)))
        self.assertEqual(repr(plan.remove_target((0, 3))), "1")
        self.assertEqual(repr(plan.remove_piece((0, 1))), "2")
        self.assertEqual((plan.targets(), plan.pieces()), (((0, 1), (2, 3)), ((0, 3), (2, 3))))
        self.check_kept(plan, Unknown, {"value": (0, 3)}, "remove_target", (0, 3))
        self.check_kept(plan, Unknown, {"value": (0, 1)}, "remove_piece", (0, 1))
        self.assertEqual([plan.add_target((0, 3)), plan.remove_target((0, 3))], [3, 4])

    def test_unknown(self):
        for word, value in product(("remove_target", "remove_piece"), WRONG_INTERVALS + ((7, 8), (0, LAST))):
            for plan in (Plan((), ()), Plan(((0, 1), (1, 1)), ((0, 1), (1, 1)))):
                error = self.check_kept(plan, Unknown, {"value": value}, word, value)
                self.assertTrue(error.value is value)

    def test_target_is_no_piece(self):
        plan = Plan(((0, 1),), ((2, 3),))
        self.check_kept(plan, Unknown, {"value": (2, 3)}, "remove_target", (2, 3))
        self.check_kept(plan, Unknown, {"value": (0, 1)}, "remove_piece", (0, 1))

    def test_true_is_not_one(self):
        plan = Plan(((0, 1), (1, 1)), ((0, 1), (1, 1)))
        for word in ("remove_target", "remove_piece"):
            for value in ((0, True), (False, 1), (False, True), (True, True), [0, 1], "0-1"):
                self.check_kept(plan, Unknown, {"value": value}, word, value)


class ManyEdits(Plans):
    def test_sixty_edits(self):
        plan = full_plan()
        self.assertEqual((len(plan), len(plan.edits())), (60, 60))
        for word, value in product(WORDS, (plan.targets()[0], plan.pieces()[0], (77, 78), None, (0, True), [])):
            self.check_kept(plan, TooManyEdits, {}, word, value)
        self.assertEqual(plan.undo(), 59)
        self.assertEqual(plan.add_target((77, 78)), 60)
        self.check_kept(plan, TooManyEdits, {}, "add_target", (77, 79))

    def test_too_many_edits_comes_first_in_a_full_plan(self):
        plan = Plan(points(24), points(30))
        for turn in range(30):
            plan.remove_piece((3, 3))
            plan.add_piece((3, 3))
        for word, value in product(WORDS, ((99, 99), (3, 3), (1, 0))):
            self.check_kept(plan, TooManyEdits, {}, word, value)

    def test_undo_down_to_the_first_state(self):
        plan = full_plan()
        before = [(plan.targets(version=k), plan.pieces(version=k), plan.edits()[:k]) for k in range(61)]
        for version in range(59, -1, -1):
            self.assertEqual(repr(plan.undo()), repr(version))
            self.assertEqual((plan.targets(), plan.pieces(), plan.edits()), before[version])
            self.assertEqual(len(plan), version)
        self.check_kept(plan, NothingToUndo, {}, "undo")


class Undo(Plans):
    def test_nothing_to_undo(self):
        self.check_kept(Plan((), ()), NothingToUndo, {}, "undo")
        self.check_kept(Plan(points(24), points(30)), NothingToUndo, {}, "undo")
        plan = Plan((), ())
        plan.add_piece((0, 1))
        plan.undo()
        self.check_kept(plan, NothingToUndo, {}, "undo")

    def test_each_edit(self):
        for word, interval in (("add_target", (5, 6)), ("add_piece", (5, 6)), ("remove_target", (0, 3)),
                               ("remove_piece", (0, 1))):
            plan = Plan(((0, 3), (7, 9)), ((0, 1), (7, 9)))
            before = sight(plan)
            self.assertEqual(call(plan, word, interval), 1)
            self.assertNotEqual(sight(plan), before)
            self.assertEqual(plan.undo(), 0)
            self.assertEqual(sight(plan), before)

    def test_edit_after_undo(self):
        plan = Plan((), ())
        plan.add_target((0, 1))
        plan.add_target((0, 2))
        plan.undo()
        self.assertEqual(plan.add_piece((5, 6)), 2)
        self.assertEqual(plan.edits(), (("add_target", (0, 1)), ("add_piece", (5, 6))))
        self.assertEqual(plan.targets(version=2), ((0, 1),))


class Versions(Plans):
    def three_edits(self):
        plan = Plan(((0, 3),), ((0, 1),))
        plan.add_target((0, 1))
        plan.add_piece((2, 3))
        plan.remove_piece((0, 1))
        return plan

    def test_each_version(self):
        plan = self.three_edits()
        states = (
            (((0, 3),), ((0, 1),)), (((0, 1), (0, 3)), ((0, 1),)), (((0, 1), (0, 3)), ((0, 1), (2, 3))),
            (((0, 1), (0, 3)), ((2, 3),)),
        )
        for version, (targets, pieces) in enumerate(states):
            self.assertEqual(repr(plan.targets(version=version)), repr(targets))
            self.assertEqual(repr(plan.pieces(version=version)), repr(pieces))
            self.assertEqual(repr(plan.needed(version=version)), repr(count_needed(targets, pieces)))
            self.assertEqual(repr(plan.solution(version=version)), repr(solve(targets, pieces)))
            self.assertEqual(repr(plan.missing(version=version)), repr(find_missing(targets, pieces)))
            self.assertIs(solution_holds(targets, pieces, plan.solution(version=version)), True)
        self.assertEqual([plan.needed(version=version) for version in range(4)], [1, 1, 0, 1])

    def test_default_is_the_present(self):
        plan = self.three_edits()
        for query in QUERIES:
            present = repr(call(plan, query))
            self.assertEqual(repr(call(plan, query, version=None)), present)
            self.assertEqual(repr(call(plan, query, version=3)), present)

    def test_wrong_versions(self):
        plan = self.three_edits()
        for query, value in product(QUERIES, WRONG_VERSIONS):
            error = self.check_kept(plan, NoVersion, {"value": value}, query, version=value)
            self.assertTrue(error.value is value)

    def test_wrong_versions_of_a_new_plan(self):
        for query, value in product(QUERIES, (True, False, 1, -1)):
            self.check_kept(Plan((), ()), NoVersion, {"value": value}, query, version=value)

    def test_an_undone_version_is_gone(self):
        plan = self.three_edits()
        plan.undo()
        for query in QUERIES:
            call(plan, query, version=2)
            self.check_kept(plan, NoVersion, {"value": 3}, query, version=3)

    def test_no_version_before_too_wide(self):
        plan = Plan(points(9), ())
        for query, value in product(QUERIES, (True, False, 1, -1, "0", [])):
            self.check_kept(plan, NoVersion, {"value": value}, query, version=value)
        for version in (None, 0):
            for query in ("needed", "solution"):
                self.check_kept(plan, TooWide, {"bound": 8}, query, version=version)
            self.assertEqual(plan.missing(version=version), (0, (0, 0)))

    def test_too_wide_at_some_versions(self):
        plan = Plan(points(8), ())
        plan.add_piece((20, 20))
        plan.remove_target((0, 0))
        self.assertEqual([plan.needed(version=0), plan.needed(version=2), plan.needed()], [8, 7, 7])
        self.check_kept(plan, TooWide, {"bound": 8}, "needed", version=1)
        self.check_kept(plan, TooWide, {"bound": 8}, "solution", version=1)
        self.check_kept(plan, TooWide, {"bound": 8}, "changes")
        self.assertEqual(plan.missing(version=1), (0, (0, 0)))


class Changes(Plans):
    def test_no_edits(self):
        self.assertEqual(repr(Plan((), ()).changes()), "()")
        self.assertEqual(repr(Plan(((0, 3),), ()).changes()), "()")

    def test_each_edit(self):
        plan = Plan(((0, 3),), ())
        plan.add_target((0, 1))
        plan.add_piece((0, 1))
        plan.add_piece((5, 6))
        plan.add_piece((2, 3))
        plan.remove_piece((0, 1))
        plan.remove_target((0, 3))
        self.assertEqual(repr(plan.changes()), "(1, -1, 0, -1, 1, 0)")
        plan.undo()
        self.assertEqual(repr(plan.changes()), "(1, -1, 0, -1, 1)")

    def test_too_wide(self):
        self.check_kept(Plan(points(9), ()), TooWide, {"bound": 8}, "changes")
        self.check_kept(Plan((), points(9)), TooWide, {"bound": 8}, "changes")
        plan = Plan(points(9), ())
        plan.remove_target((0, 0))
        self.check_kept(plan, TooWide, {"bound": 8}, "changes")
        plan = Plan(points(8), ())
        plan.add_piece((8, 8))
        self.check_kept(plan, TooWide, {"bound": 8}, "changes")
        plan.undo()
        self.assertEqual(plan.changes(), ())
        plan.add_piece((7, 7))
        self.assertEqual(plan.changes(), (-1,))


class LenTextEquality(Plans):
    def test_len(self):
        plan = Plan(points(3), ())
        for version in range(1, 5):
            plan.add_piece((version, version))
            self.assertEqual(len(plan), version)
        plan.undo()
        self.assertEqual(len(plan), 3)

    def test_text(self):
        plan = Plan(points(3), points(2))
        self.assertEqual(str(plan), "3 targets, 2 pieces, 0 edits")
        plan.remove_target((0, 0))
        self.assertEqual(str(plan), "2 targets, 2 pieces, 1 edits")
        plan.remove_target((1, 1))
        plan.remove_piece((1, 1))
        self.assertEqual(str(plan), "1 targets, 1 pieces, 3 edits")
        plan.undo()
        self.assertEqual(str(plan), "1 targets, 2 pieces, 2 edits")
        self.assertEqual(str(Plan((), ())), "0 targets, 0 pieces, 0 edits")
        self.assertEqual(str(Plan(points(24), points(30))), "24 targets, 30 pieces, 0 edits")
        self.assertRegex(str(full_plan()), "^[0-9]+ targets, [0-9]+ pieces, 60 edits$")

    def test_equal_plans(self):
        plan = Plan(((0, 1),), ((2, 3),))
        self.assertIs(plan == Plan(((0, 1),), ((2, 3),)), True)
        self.assertIs(plan != Plan(((0, 1),), ((2, 3),)), False)
        self.assertIs(plan == plan, True)
        other = Plan((), ())
        other.add_piece((2, 3))
        self.assertIs(plan == other, False)
        other.add_target((0, 1))
        self.assertIs(plan == other, True)
        self.assertIs(other == plan, True)
        other.undo()
        self.assertIs(plan == other, False)

    def test_different_plans(self):
        plan = Plan(((0, 1),), ((2, 3),))
        for other in (Plan((), ()), Plan(((0, 1),), ()), Plan((), ((2, 3),)), Plan(((2, 3),), ((0, 1),)),
                      Plan(((0, 1),), ((2, 4),)), Plan(((0, 1), (2, 3)), ((2, 3),))):
            self.assertIs(plan == other, False)
            self.assertIs(plan != other, True)

    def test_other_values(self):
        for plan in (Plan((), ()), Plan(((0, 1),), ())):
            for value in NO_TUPLES + WRONG_INTERVALS + ((((0, 1),), ()), ((), ()), str(plan), object(), Plan):
                self.assertIs(plan == value, False)
                self.assertIs(value == plan, False)
                self.assertIs(plan != value, True)


class Model:
    """What the document says of edits, kept in the plainest way."""

    def __init__(self, targets, pieces):
        self.start = {"target": list(targets), "piece": list(pieces)}
        self.standing = []

    def state(self, version):
        kinds = {kind: list(intervals) for kind, intervals in self.start.items()}
        for word, interval in self.standing[:version]:
            action, kind = word.split("_")
            (kinds[kind].append if action == "add" else kinds[kind].remove)(interval)
        return tuple(sorted(kinds["target"])), tuple(sorted(kinds["piece"]))

    def error(self, word, interval):
        action, kind = word.split("_")
        present = self.state(60)[kind == "piece"]
        if len(self.standing) == 60:
            return TooManyEdits
        if action == "remove":
            return None if interval in present else Unknown
        if interval in present:
            return Duplicate
        return TooMany if len(present) == {"target": 24, "piece": 30}[kind] else None


class ManyStates(Plans):
    """Long runs of edits and undos against a model."""

    def run_steps(self, number, last, start):
        draw = Random(number)
        intervals = intervals_up_to(last)
        plan, model = Plan(*start), Model(*start)
        for step in range(160):
            word = draw.choice(WORDS + ("undo",) * (number % 3) + ("add_target", "add_piece"))
            interval = draw.choice(intervals)
            if word == "undo":
                if model.standing:
                    model.standing.pop()
                    self.assertEqual(plan.undo(), len(model.standing))
                else:
                    self.check_raises(NothingToUndo, {}, plan.undo)
                continue
            error = model.error(word, interval)
            if error is None:
                model.standing.append((word, interval))
                self.assertEqual(call(plan, word, interval), len(model.standing))
            else:
                self.check_raises(error, {}, getattr(plan, word), interval)
        return plan, model

    def check_states(self, plan, model):
        self.assertEqual(plan.edits(), tuple(model.standing))
        self.assertEqual(len(plan), len(model.standing))
        counts = []
        for version in range(len(model.standing) + 1):
            targets, pieces = model.state(version)
            self.assertEqual((plan.targets(version=version), plan.pieces(version=version)), (targets, pieces))
            self.assertEqual(plan.needed(version=version), count_needed(targets, pieces))
            self.assertEqual(plan.solution(version=version), solve(targets, pieces))
            self.assertEqual(plan.missing(version=version), find_missing(targets, pieces))
            counts.append(count_needed(targets, pieces))
        self.assertEqual(plan.changes(), tuple(after - before for before, after in zip(counts, counts[1:])))
        self.assertLessEqual(set(plan.changes()), {-1, 0, 1})

    def check_like_new(self, plan):
        new = Plan(plan.targets(), plan.pieces())
        for query in QUERIES:
            self.assertEqual(repr(call(plan, query)), repr(call(new, query)))
        self.assertIs(plan == new, True)
        self.assertEqual(str(new).partition("pieces")[0], str(plan).partition("pieces")[0])

    def test_runs(self):
        starts = (((), ()), (((0, 3), (1, 2)), ((0, 1),)), (intervals_up_to(7)[:24], intervals_up_to(7)[:30]))
        for number, start in product(range(8), starts):
            plan, model = self.run_steps(number, 7, start)
            with self.subTest(number=number, start=start):
                self.check_states(plan, model)
                self.check_like_new(plan)
                while len(plan) > 0:
                    plan.undo()
                    model.standing.pop()
                    self.check_like_new(plan)
                self.assertEqual((plan.targets(), plan.pieces()), start)


class LaterChanges(Timed):
    def test_changed_lists(self):
        rows = [(0, 1), (2, 3)]
        plan = Plan(tuple(rows), tuple(rows))
        rows.clear()
        self.assertEqual((plan.targets(), plan.pieces()), (((0, 1), (2, 3)), ((0, 1), (2, 3))))

    def test_results_are_the_callers_own(self):
        plan = Plan(((0, 1),), ())
        for result in (plan.targets(), plan.pieces(), plan.edits(), plan.changes(), plan.solution()):
            self.assertIs(type(result), tuple)

    def test_an_error_is_of_its_kind(self):
        self.assertFalse(issubclass(Unknown, SpanError))
        self.assertFalse(issubclass(NoVersion, SpanError))


if __name__ == "__main__":
    unittest.main()
