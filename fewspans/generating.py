"""Which pieces generate targets, and which of them are needed for it."""

from fewspans.errors import NotGenerated
from fewspans.intervals import contains, has_position


def pieces_inside(pieces, target):
    return [piece for piece in pieces if contains(target, piece)]


def first_gap(pieces, target):
    """Return the smallest position of the target that lies in no piece inside the target, or None."""
    position, last = target
    # Low ends only grow here, so once a piece begins above the position, no later piece contains it.
    for low, high in sorted(pieces_inside(pieces, target)):
        if low > position:
            return position
        position = max(position, high + 1)
    return position if position <= last else None


def generates(pieces, target):
    """Return whether each position of the target lies in a piece inside the target."""
    return first_gap(pieces, target) is None


def find_missing(targets, pieces):
    """Return the demand at the first gap of the first target that the pieces do not generate, or None."""
    for target in targets:
        gap = first_gap(pieces, target)
        if gap is not None:
            return (gap, target)
    return None


def farthest_piece(pieces, position):
    """Return the piece with the greatest high end (of these, the smallest low end) at the position, or None."""
    at_position = [piece for piece in pieces if has_position(piece, position)]
    return max(at_position, key=lambda piece: (piece[1], -piece[0]), default=None)


def cover_chain(pieces, target):
    """Return pieces that cover the target, each one reaching as far as possible, or None if it is not generated."""
    inside = pieces_inside(pieces, target)
    position, last = target
    chain = []
    while position <= last:
        piece = farthest_piece(inside, position)
        if piece is None:
            return None
        chain.append(piece)
        position = piece[1] + 1
    return tuple(chain)


def without_item(items, item):
    return tuple([other for other in items if other != item])


def require_generated(targets, pieces):
    missing = find_missing(targets, pieces)
    if missing is not None:
        raise NotGenerated(missing)


def can_spare(targets, pieces, piece):
    """Return whether the other pieces generate all targets."""
    return find_missing(targets, without_item(pieces, piece)) is None


def removable_pieces(targets, pieces):
    """Return the pieces without which, one at a time, the others still generate all targets."""
    require_generated(targets, pieces)
    return tuple([piece for piece in pieces if can_spare(targets, pieces, piece)])


def prune_pieces(targets, pieces):
    """Return what is left when each piece, in ascending order, is removed if those that are left can spare it."""
    require_generated(targets, pieces)
    left = pieces
    for piece in pieces:
        if can_spare(targets, left, piece):
            left = without_item(left, piece)
    return left


def redundant_targets(targets):
    """Return the targets that the other targets, taken as pieces, generate."""
    return tuple([target for target in targets if generates(without_item(targets, target), target)])


def reduce_targets(targets):
    """Return the targets without all redundant ones."""
    redundant = redundant_targets(targets)
    return tuple([target for target in targets if target not in redundant])
