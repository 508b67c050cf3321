"""What the targets need when no pieces are there, and which of them make it so much."""

from fewspans.generating import without_item
from fewspans.solving import count_needed


def essential_targets(targets):
    """Return the ascending tuple of the targets without which less is needed."""
    needed = count_needed(targets, ())
    return tuple([target for target in targets if count_needed(without_item(targets, target), ()) < needed])


def core_targets(targets):
    """Return what is left when each target, in ascending order, is removed if just as much is needed without it."""
    needed = count_needed(targets, ())
    left = targets
    for target in targets:
        rest = without_item(left, target)
        if count_needed(rest, ()) == needed:
            left = rest
    return left


def is_free(targets, interval):
    """Return whether just as much is needed if the interval is also a target."""
    # The first count has the blocks of both, so it raises TooWide whenever the second one would.
    return count_needed(targets + (interval,), ()) == count_needed(targets, ())


def growth_counts(targets):
    """Return, for each k from 0 to the number of targets, what the first k targets need."""
    # The last count has all targets, so it raises TooWide whenever one of the others would.
    return tuple([count_needed(targets[:many], ()) for many in range(len(targets) + 1)])
