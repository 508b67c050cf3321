"""Demands: a position of a target that some piece inside the target must contain."""

from fewspans.blocks import find_blocks
from fewspans.intervals import contains, has_position, is_interval, is_position, is_tuple_of


def is_demand(value):
    """Return whether any value is a tuple (position, target) of a position and an interval that contains it."""
    if not is_tuple_of(value, 2):
        return False
    position, target = value
    return is_position(position) and is_interval(target) and has_position(target, position)


def serves(piece, demand):
    """Return whether the piece lies inside the demand's target and contains its position."""
    position, target = demand
    return contains(target, piece) and has_position(piece, position)


def conflict(first, second):
    """Return whether one interval serves both demands."""
    # Each position lies in its own target anyway, so only the other target is asked.
    return has_position(second[1], first[0]) and has_position(first[1], second[0])


def joint_piece(demands):
    """Return the smallest interval that serves all of one or more demands, or None."""
    positions = [position for position, target in demands]
    piece = (min(positions), max(positions))
    # An interval that serves all contains this piece, so the piece lies inside all targets, too, and serves all.
    return piece if all([serves(piece, demand) for demand in demands]) else None


def is_independent(value):
    """Return whether any value is a tuple of demands of which no two conflict."""
    if not isinstance(value, tuple) or not all([is_demand(item) for item in value]):
        return False
    for index, first in enumerate(value):
        if any([conflict(first, second) for second in value[:index]]):
            return False
    return True


def demands_at_blocks(targets, blocks):
    """Return the demands of the targets at the first positions of the blocks, ascending as both of these are."""
    return [(low, target) for low, high in blocks for target in targets if has_position(target, low)]


def is_open(pieces, demand):
    """Return whether no piece serves the demand."""
    return not any([serves(piece, demand) for piece in pieces])


def all_demands(targets):
    """Return the demands of the targets at the positions at which a block of the targets begins."""
    return tuple(demands_at_blocks(targets, find_blocks(targets)))


def open_demands(targets, pieces):
    """Return the open demands of the targets at the positions at which a block of targets + pieces begins."""
    demands = demands_at_blocks(targets, find_blocks(targets + pieces))
    return tuple([demand for demand in demands if is_open(pieces, demand)])


def shadow_target(targets, demand):
    """Return the first other target that lies inside the demand's target and contains its position, or None."""
    position, whole = demand
    for target in targets:
        if target != whole and contains(whole, target) and has_position(target, position):
            return target
    return None
