"""Targets made of other targets."""

from fewspans.bounds import MAX_TARGETS
from fewspans.errors import OutOfRange, TooMany
from fewspans.intervals import contains, is_interval


def require_positions(intervals):
    """Return the intervals if their ends are positions."""
    if not all([is_interval(interval) for interval in intervals]):
        raise OutOfRange()
    return intervals


def reflect_targets(targets, last):
    """Return the targets with each position p at last - p."""
    return tuple(sorted([(last - high, last - low) for low, high in targets]))


def shift_targets(targets, by):
    """Return the targets with each position p at p + by."""
    return require_positions(tuple([(low + by, high + by) for low, high in targets]))


def remove_position(targets, position):
    """Return the targets without the position, with all greater positions one less."""
    left = [target for target in targets if target != (position, position)]
    # A target that begins at the position keeps its low end, because the next position moves there.
    moved = [(low - 1 if low > position else low, high - 1 if high >= position else high) for low, high in left]
    return tuple(sorted(set(moved)))


def double_position(targets, position):
    """Return the targets with the position twice, with all greater positions one more."""
    moved = [(low + 1 if low > position else low, high + 1 if high >= position else high) for low, high in targets]
    return require_positions(tuple(moved))


def join_targets(first, second, gap):
    """Return the targets of first and, gap positions above them, those of second."""
    if not first or not second:
        return first or second
    if len(first) + len(second) > MAX_TARGETS:
        raise TooMany(MAX_TARGETS)
    lowest = min([low for low, high in second])
    highest = max([high for low, high in first])
    return first + shift_targets(second, highest + gap - lowest)


def window_targets(targets, interval):
    """Return the targets that lie inside the interval."""
    return tuple([target for target in targets if contains(interval, target)])
