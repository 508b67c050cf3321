"""Intervals, targets and pieces: what they are, and how two intervals relate."""

from fewspans.bounds import LAST_POSITION, MAX_PIECES, MAX_TARGETS


def is_number(value):
    # A bool is an int for Python, but the document does not accept it as a number.
    return isinstance(value, int) and not isinstance(value, bool)


def is_position(value):
    return is_number(value) and 0 <= value <= LAST_POSITION


def is_tuple_of(value, length):
    return isinstance(value, tuple) and len(value) == length


def is_interval(value):
    """Return whether any value is a tuple (low, high) of positions with low <= high."""
    if not is_tuple_of(value, 2):
        return False
    low, high = value
    return is_position(low) and is_position(high) and low <= high


def ascending_error(value, most):
    """Return the first reason why value is not an ascending tuple of at most so many intervals, or None."""
    if not isinstance(value, tuple) or len(value) > most:
        return (None, "tuple")
    for index, item in enumerate(value):
        # Only intervals are compared: values of other kinds may have no order.
        if not is_interval(item):
            return (index, "interval")
        if index > 0 and item <= value[index - 1]:
            return (index, "order")
    return None


def targets_error(value):
    """Return None if any value is targets, otherwise the first error in the document's order."""
    return ascending_error(value, MAX_TARGETS)


def is_targets(value):
    """Return whether any value is targets."""
    return targets_error(value) is None


def is_pieces(value):
    """Return whether any value is pieces."""
    return ascending_error(value, MAX_PIECES) is None


def is_ascending(value, is_item):
    """Return whether any value is an ascending tuple, perhaps empty, of items that is_item accepts."""
    # Values of other kinds may have no order, so all items are asked before two of them are compared.
    if not isinstance(value, tuple) or not all([is_item(item) for item in value]):
        return False
    return all([before < item for before, item in zip(value, value[1:])])


def has_position(interval, position):
    return interval[0] <= position <= interval[1]


def contains(outer, inner):
    """Return whether the interval inner lies inside the interval outer."""
    return outer[0] <= inner[0] and inner[1] <= outer[1]


def intersect(first, second):
    """Return the interval of the common positions of two intervals, or None."""
    low = max(first[0], second[0])
    high = min(first[1], second[1])
    return (low, high) if low <= high else None


def hull_of(first, second):
    """Return the smallest interval that contains both intervals."""
    return (min(first[0], second[0]), max(first[1], second[1]))
