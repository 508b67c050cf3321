import unittest
from itertools import product

from fewspans.plans import Plan
from fewspans.shells import Shell
from planned import Plans, full_plan, sight
from samples import LAST, NO_TUPLES, RIGHT_INTERVALS, WRONG_INTERVALS, WRONG_WORDS, points

T = ((0, 1), (0, 3), (1, 4), (3, 4))
EDITS = {"target": "add_target", "untarget": "remove_target", "piece": "add_piece", "unpiece": "remove_piece"}
QUESTIONS = ("targets", "pieces", "needed", "solve", "witnesses", "missing", "changes")

UNKNOWN_LINES = (
    "", " ", "  ", "\n", "help", "quit", "none", "ok", "error", "0-1", "0-1 0-3", "target", "untarget", "piece", "unpiece",
    "target ", "piece ", " target 0-1", "target  0-1", "target 0-1 ", "target 0-1\n", "\ntarget 0-1", "target\n0-1",
    "target\t0-1", "target 0-1 0-3", "piece 0-1 0-3", "target 0 1", "target 0 - 1", "target (0, 1)", "target 0", "target0-1",
    "targets 0-1", "pieces 0-1", "needed 0-1", "solve 0-1", "undo 0-1", "undo 1", "undo ", " undo", "undo\n", "undo undo",
    "Target 0-1", "TARGET 0-1", "Undo", "UNDO", "Targets", "NEEDED", "add_target 0-1", "add_piece 0-1", "remove_target 0-1",
    "remove_piece 0-1", "add 0-1", "remove 0-1", "apply", "edits", "solution", "missing 0-1", "changes 0-1", "witness",
    "targets pieces", "targets\npieces", "len", "str", "version", "execute", "plan", "untargets", "unpieces", "un target 0-1",
    "needed\n", "needed ", " needed", "target none", "untarget none", "piece none", "unpiece none", "retarget 0-1",
    "x" * 2000, "target " + "0" * 1990, "target 0-1" + "\n" * 1000,
)


class DocumentExamples(Plans):
    def test_shell(self):
        self.assertEqual(repr(Shell(Plan(((0, 3),), ())).execute("targets")), "'0-3'")

    def test_execute(self):
        shell = Shell(Plan(((0, 3),), ()))
        lines = ("piece 0-1", "needed", "missing", "piece 0-1")
        result = [shell.execute(line) for line in lines]
        self.assertEqual(repr(result), "['ok 1', '1', '2@0-3', 'error Duplicate']")


class Shells(Plans):
    def check(self, plan, line, answer):
        with self.subTest(line=repr(line)[:60]):
            result = Shell(plan).execute(line)
            self.assertIs(type(result), str)
            self.assertEqual(result, answer)

    def check_same(self, plan, line, answer):
        before = sight(plan)
        self.check(plan, line, answer)
        self.assertEqual(sight(plan), before)


class Edits(Shells):
    def test_each_edit(self):
        plan = Plan(((0, 3),), ((0, 1),))
        self.check(plan, "target 0-1", "ok 1")
        self.assertEqual(plan.targets(), ((0, 1), (0, 3)))
        self.check(plan, "untarget 0-3", "ok 2")
        self.assertEqual(plan.targets(), ((0, 1),))
        self.check(plan, "piece 5-9", "ok 3")
        self.assertEqual(plan.pieces(), ((0, 1), (5, 9)))
        self.check(plan, "unpiece 0-1", "ok 4")
        self.assertEqual(plan.pieces(), ((5, 9),))
        self.assertEqual(plan.edits(), (
            ("add_target", (0, 1)), ("remove_target", (0, 3)), ("add_piece", (5, 9)), ("remove_piece", (0, 1)),
        ))
        for version in (3, 2, 1, 0):
            self.check(plan, "undo", f"ok {version}")
        self.assertEqual((plan.targets(), plan.pieces()), (((0, 3),), ((0, 1),)))

    def test_all_intervals(self):
        for interval in RIGHT_INTERVALS:
            plan = Plan((), ())
            text = f"{interval[0]}-{interval[1]}"
            self.check(plan, "target " + text, "ok 1")
            self.check(plan, "piece " + text, "ok 2")
            self.assertEqual((plan.targets(), plan.pieces()), ((interval,), (interval,)))
            self.check(plan, "untarget " + text, "ok 3")
            self.check(plan, "unpiece " + text, "ok 4")
            self.assertEqual((plan.targets(), plan.pieces()), ((), ()))

    def test_this_very_plan(self):
        plan = Plan((), ())
        first, second = Shell(plan), Shell(plan)
        self.assertEqual(first.execute("piece 0-1"), "ok 1")
        self.assertEqual(second.execute("pieces"), "0-1")
        plan.add_piece((3, 4))
        self.assertEqual(first.execute("pieces"), "0-1 3-4")
        self.assertEqual(second.execute("undo"), "ok 1")
        self.assertEqual(len(plan), 1)


class Errors(Shells):
    def test_duplicate(self):
        plan = Plan(((0, 3),), ((0, 3),))
        self.check_same(plan, "target 0-3", "error Duplicate")
        self.check_same(plan, "piece 0-3", "error Duplicate")

    def test_unknown(self):
        plan = Plan(((0, 3),), ((0, 1),))
        self.check_same(plan, "untarget 0-1", "error Unknown")
        self.check_same(plan, "unpiece 0-3", "error Unknown")

    def test_too_many(self):
        plan = Plan(points(24), points(30))
        self.check_same(plan, "target 99-99", "error TooMany")
        self.check_same(plan, "piece 99-99", "error TooMany")
        self.check_same(plan, "target 3-3", "error Duplicate")

    def test_too_many_edits(self):
        plan = full_plan()
        for word in EDITS:
            self.check_same(plan, word + " 77-78", "error TooManyEdits")
            self.check_same(plan, word + " 0-3", "error TooManyEdits")
        self.check(plan, "undo", "ok 59")
        self.check(plan, "target 77-78", "ok 60")

    def test_nothing_to_undo(self):
        self.check_same(Plan((), ()), "undo", "error NothingToUndo")

    def test_too_wide(self):
        plan = Plan(points(9), ())
        for line in ("needed", "solve", "witnesses", "changes"):
            self.check_same(plan, line, "error TooWide")
        self.check_same(plan, "missing", "0@0-0")
        self.check_same(plan, "targets", "0-0 1-1 2-2 3-3 4-4 5-5 6-6 7-7 8-8")
        self.check(plan, "untarget 8-8", "ok 1")
        self.check_same(plan, "needed", "8")
        self.check_same(plan, "changes", "error TooWide")

    def test_busy(self):
        plan = Plan(((0, 3),), ())
        shell = Shell(plan)
        seen = []

        def check(given):
            lines = [f"{word} {text}" for word, text in product(EDITS, ("0-3", "0-1", "7-9"))] + ["undo"]
            seen.append([shell.execute(line) for line in lines])
            seen.append([shell.execute(line) for line in QUESTIONS])
            seen.append([shell.execute(line) for line in ("target", "undo 0-1", "piece 1-0", None)])
            return True

        self.assertEqual(plan.apply([("add_piece", (0, 1))], check=check), 1)
        self.assertEqual(seen[0], ["error Busy"] * 13)
        self.assertEqual(seen[1][:3] + seen[1][5:], ["0-3", "0-1", "1", "2@0-3", "0"])
        self.assertEqual(seen[2], ["unknown command"] * 4)
        self.check(plan, "undo", "ok 0")

    def test_usable_after_an_error(self):
        plan = Plan((), ())
        self.check(plan, "undo", "error NothingToUndo")
        self.check(plan, "piece 0-1", "ok 1")
        self.check(plan, "piece 0-1", "error Duplicate")
        self.check(plan, "unpiece 0-1", "ok 2")


class Questions(Shells):
    def test_empty_plan(self):
        for line in QUESTIONS:
            self.check_same(Plan((), ()), line, "0" if line == "needed" else "none")

    def test_targets_and_pieces(self):
        plan = Plan(T, ((5, 5), (LAST, LAST)))
        self.check_same(plan, "targets", "0-1 0-3 1-4 3-4")
        self.check_same(plan, "pieces", "5-5 1000000000000-1000000000000")

    def test_needed(self):
        self.check_same(Plan(T, ()), "needed", "3")
        self.check_same(Plan(T, ((1, 3),)), "needed", "2")
        self.check_same(Plan(T, T), "needed", "0")

    def test_solve_and_witnesses(self):
        self.check_same(Plan(((0, 3),), ()), "solve", "0-3")
        self.check_same(Plan(((0, 0), (7, 7)), ()), "solve", "0-0 7-7")
        self.check_same(Plan(((0, 0), (7, 7)), ()), "witnesses", "0@0-0 7@7-7")
        self.check_same(Plan(T, T), "solve", "none")
        self.check_same(Plan(T, T), "witnesses", "none")
        for pieces in ((), ((1, 3),), ((0, 1), (3, 4))):
            plan = Plan(T, pieces)
            added, witnesses = plan.solution()
            self.check_same(plan, "solve", " ".join(f"{low}-{high}" for low, high in added))
            self.check_same(plan, "witnesses", " ".join(f"{p}@{low}-{high}" for p, (low, high) in witnesses))

    def test_missing(self):
        self.check_same(Plan(((0, 3),), ((0, 1),)), "missing", "2@0-3")
        self.check_same(Plan(((0, 3),), ((0, 3),)), "missing", "none")
        self.check_same(Plan(((0, LAST),), ((0, LAST - 1),)), "missing", "1000000000000@0-1000000000000")

    def test_changes(self):
        plan = Plan(((0, 3),), ())
        self.check_same(plan, "changes", "none")
        for line in ("target 0-1", "piece 0-1", "piece 7-8", "piece 2-3"):
            Shell(plan).execute(line)
        self.check_same(plan, "changes", "1 -1 0 -1")


class UnknownCommands(Shells):
    def check_unknown(self, value):
        for plan in (Plan(((0, 3),), ((0, 1),)), Plan((), ())):
            self.check_same(plan, value, "unknown command")

    def test_lines(self):
        for line in UNKNOWN_LINES:
            self.check_unknown(line)

    def test_wrong_intervals(self):
        for word, text in product(EDITS, WRONG_WORDS):
            self.check_same(Plan(((0, 3),), ((0, 1),)), f"{word} {text}", "unknown command")

    def test_more_words(self):
        for word, more in product(tuple(EDITS) + QUESTIONS + ("undo",), ("", " ", "x", "0-1 x", " 0-1", "targets", "\n")):
            self.check_same(Plan(((0, 3),), ((0, 1),)), word + " " + more, "unknown command")
        for word in QUESTIONS + ("undo",):
            for line in (word + " 0-3", " " + word, word + "\n", "\n" + word, word.upper(), word[:-1], word + "x"):
                if line not in EDITS:
                    self.check_same(Plan(((0, 3),), ((0, 1),)), line, "unknown command")

    def test_no_text(self):
        plan = Plan(((0, 3),), ((0, 1),))
        for value in NO_TUPLES + WRONG_INTERVALS + RIGHT_INTERVALS + (["targets"], ("targets",), {"targets": "targets"}):
            before = repr(value)
            self.check_same(plan, value, "unknown command")
            self.assertEqual(repr(value), before)

    def test_no_text_while_wide_or_full(self):
        self.check_same(Plan(points(9), ()), "needed 0-1", "unknown command")
        self.check_same(full_plan(), "target 1-0", "unknown command")


if __name__ == "__main__":
    unittest.main()
