"""The least number of further pieces that targets need, with a proof that fewer are not enough."""

from fewspans.blocks import find_blocks
from fewspans.bounds import MAX_BLOCKS
from fewspans.demands import conflict, is_demand, is_independent, is_open, open_demands, serves, shadow_target
from fewspans.errors import TooWide
from fewspans.generating import find_missing, generates, pieces_inside
from fewspans.intervals import contains, intersect, is_ascending, is_interval, is_tuple_of


def require_few_blocks(intervals):
    if len(find_blocks(intervals)) > MAX_BLOCKS:
        raise TooWide(MAX_BLOCKS)


def decisive_demands(targets, pieces):
    """Return the open demands that decide what is needed, as an ascending list."""
    # A shadowed demand never decides: what serves the shadow's demand serves it too, and in a selection
    # without conflicts the shadow's demand can take its place. So few demands are left for the searches below.
    return [demand for demand in open_demands(targets, pieces) if shadow_target(targets, demand) is None]


def largest_independent(demands):
    """Return a largest selection of the demands of which no two conflict, as a tuple in the given order."""
    if not demands:
        return ()
    first, rest = demands[0], demands[1:]
    chosen = (first,) + largest_independent([demand for demand in rest if not conflict(first, demand)])
    # Demands at one position conflict, so the rest has no selection that is larger than the number of its positions.
    if len(chosen) >= len({position for position, target in rest}):
        return chosen
    return max([chosen, largest_independent(rest)], key=len)


def unserved_demands(demands, piece):
    return [demand for demand in demands if not serves(piece, demand)]


def helpful_piece(demands, blocks):
    """Return an interval that begins and ends where blocks do and helps most with one or more demands."""
    # Each smallest solution has an interval that serves the first demand, and that one helps. It may be trimmed
    # or widened to whole blocks, because the demands stand at the first positions of blocks.
    pieces = [(low, high) for low, end in blocks for start, high in blocks if serves((low, high), demands[0])]
    return min(pieces, key=lambda piece: len(largest_independent(unserved_demands(demands, piece))))


def smallest_solution(targets, pieces):
    """Return what solve returns, however many blocks there are."""
    blocks = find_blocks(targets + pieces)
    demands = decisive_demands(targets, pieces)
    witnesses = largest_independent(demands)
    added = []
    while demands:
        piece = helpful_piece(demands, blocks)
        added.append(piece)
        demands = unserved_demands(demands, piece)
    return (tuple(sorted(added)), witnesses)


def count_needed(targets, pieces):
    """Return the least number of further intervals that, together with the pieces, generate all targets."""
    require_few_blocks(targets + pieces)
    # The document's guarantee (a) says that both numbers are equal; this one is found without a solution.
    return len(largest_independent(decisive_demands(targets, pieces)))


def solve(targets, pieces):
    """Return as many intervals as are needed, and as many open demands of which no two conflict."""
    require_few_blocks(targets + pieces)
    return smallest_solution(targets, pieces)


def are_witnesses(targets, pieces, value):
    """Return whether any value is an ascending tuple of open demands of the targets of which no two conflict."""
    if not is_ascending(value, is_demand):
        return False
    return is_independent(value) and all([demand[1] in targets and is_open(pieces, demand) for demand in value])


def solution_holds(targets, pieces, value):
    """Return whether any value is a correct solution: added intervals, and as many witnesses."""
    if not is_tuple_of(value, 2):
        return False
    added, witnesses = value
    if not is_ascending(added, is_interval) or not are_witnesses(targets, pieces, witnesses):
        return False
    return len(added) == len(witnesses) and find_missing(targets, pieces + added) is None


def helps(targets, pieces, interval):
    """Return whether one piece less is needed if the interval is also a piece."""
    # The first count has the blocks of all three, so it raises TooWide whenever the second one would.
    return count_needed(targets, pieces + (interval,)) < count_needed(targets, pieces)


def helpful_interval(targets, pieces):
    """Return an interval that helps, or None if no piece is needed."""
    require_few_blocks(targets + pieces)
    demands = decisive_demands(targets, pieces)
    return helpful_piece(demands, find_blocks(targets + pieces)) if demands else None


def has_open_demand(target, pieces, interval):
    """Return whether the interval serves an open demand of the target."""
    if not contains(target, interval):
        return False
    parts = [intersect(piece, interval) for piece in pieces_inside(pieces, target)]
    return not generates([part for part in parts if part is not None], interval)


def widen(targets, pieces, interval):
    """Return the widest interval that serves all open demands of the targets that the given one serves."""
    served = [target for target in targets if has_open_demand(target, pieces, interval)]
    if not served:
        return interval
    # All these targets contain the interval, so what they have in common contains it and its demands, too.
    return (max([low for low, high in served]), min([high for low, high in served]))
