"""The edits of plans, and what each of them makes of the targets and pieces."""

from fewspans.bounds import BATCH, MAX_PIECES, MAX_TARGETS
from fewspans.errors import BadEdit, BadEdits, BadInterval, Duplicate, TooMany, Unknown
from fewspans.generating import without_item
from fewspans.intervals import is_interval, is_tuple_of

WORDS = ("add_target", "add_piece", "remove_target", "remove_piece")


def is_edit(value):
    """Return whether any value is a tuple of the word of an edit and any value."""
    return is_tuple_of(value, 2) and value[0] in WORDS


def copied_batch(value):
    """Return any value as a tuple of edits that its owner cannot change."""
    if not isinstance(value, (list, tuple)) or len(value) > BATCH:
        raise BadEdits()
    for index, item in enumerate(value):
        if not is_edit(item):
            raise BadEdit(index)
    return tuple(value)


def with_interval(intervals, value, bound):
    """Return the intervals and any value, if it is another interval and not one too many."""
    if not is_interval(value):
        raise BadInterval(value)
    if value in intervals:
        raise Duplicate(value)
    if len(intervals) >= bound:
        raise TooMany(bound)
    return tuple(sorted(intervals + (value,)))


def without_interval(intervals, value):
    """Return the intervals without any value, if it is one of them."""
    # Python takes (0, True) for equal to (0, 1), so a value must be an interval before it is looked for.
    if not is_interval(value) or value not in intervals:
        raise Unknown(value)
    return without_item(intervals, value)


def edited_state(state, word, value):
    """Return the targets and pieces after an edit."""
    targets, pieces = state
    if word == "add_target":
        return (with_interval(targets, value, MAX_TARGETS), pieces)
    if word == "add_piece":
        return (targets, with_interval(pieces, value, MAX_PIECES))
    if word == "remove_target":
        return (without_interval(targets, value), pieces)
    return (targets, without_interval(pieces, value))
