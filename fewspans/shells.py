"""A shell that edits and asks a plan by lines of text."""

from fewspans.errors import Busy, Duplicate, NothingToUndo, TooMany, TooManyEdits, TooWide, Unknown
from fewspans.texts import demand_text, intervals_text, joined_texts, parse_interval


def edit_version(plan, word, interval):
    """Do the edit that a command of two words names and return the new version, or None if it names none."""
    if word == "target":
        return plan.add_target(interval)
    if word == "untarget":
        return plan.remove_target(interval)
    if word == "piece":
        return plan.add_piece(interval)
    if word == "unpiece":
        return plan.remove_piece(interval)
    return None


def edit_answer(plan, line):
    """Return the answer to a command of two words, or None if the line is not one."""
    word, space, rest = line.partition(" ")
    interval = parse_interval(rest)
    version = None if interval is None else edit_version(plan, word, interval)
    return None if version is None else f"ok {version}"


def state_answer(plan, word):
    """Return the answer to a command about what the plan is, or None if the word is not one."""
    if word == "undo":
        return f"ok {plan.undo()}"
    if word == "targets":
        return intervals_text(plan.targets())
    if word == "pieces":
        return intervals_text(plan.pieces())
    if word == "missing":
        demand = plan.missing()
        return "none" if demand is None else demand_text(demand)
    return None


def count_answer(plan, word):
    """Return the answer to a command about what the plan needs, or None if the word is not one."""
    if word == "needed":
        return str(plan.needed())
    if word == "solve":
        return intervals_text(plan.solution()[0])
    if word == "witnesses":
        return joined_texts([demand_text(demand) for demand in plan.solution()[1]])
    if word == "changes":
        return joined_texts([str(change) for change in plan.changes()])
    return None


def answer_line(plan, line):
    """Return the answer to any value, or raise the error of the plan."""
    if not isinstance(line, str):
        return "unknown command"
    return edit_answer(plan, line) or state_answer(plan, line) or count_answer(plan, line) or "unknown command"


class Shell:
    """Answers commands about one plan."""

    def __init__(self, plan):
        self.plan = plan

    def execute(self, line):
        """Return the answer to any value as a text."""
        # A plan raises no other errors here: no command has a value that is no interval, a version or a batch.
        try:
            return answer_line(self.plan, line)
        except Busy:
            return "error Busy"
        except TooManyEdits:
            return "error TooManyEdits"
        except Duplicate:
            return "error Duplicate"
        except TooMany:
            return "error TooMany"
        except Unknown:
            return "error Unknown"
        except NothingToUndo:
            return "error NothingToUndo"
        except TooWide:
            return "error TooWide"
