"""The blocks of some intervals, found from their ends only, because intervals may be very long."""


def depth_changes(intervals):
    """Return, for each position where an interval begins or has just ended, by how much the depth changes."""
    changes = {}
    for low, high in intervals:
        changes[low] = changes.get(low, 0) + 1
        changes[high + 1] = changes.get(high + 1, 0) - 1
    return changes


def find_blocks(intervals):
    """Return the ascending tuple of the blocks of the intervals."""
    changes = depth_changes(intervals)
    # A position where the depth changes by 0 is a border too: other intervals begin there than ended before it.
    borders = sorted(changes)
    blocks = []
    depth = 0
    for low, after in zip(borders, borders[1:]):
        depth += changes[low]
        if depth > 0:
            blocks.append((low, after - 1))
    return tuple(blocks)


def block_index(intervals, position):
    """Return the index of the block that contains the position, or None."""
    for index, (low, high) in enumerate(find_blocks(intervals)):
        if low <= position <= high:
            return index
    return None


def compress(intervals):
    """Return, for each interval in the given order, the indexes of its first and its last block."""
    blocks = find_blocks(intervals)
    # Each interval begins where a block begins and ends where one ends, so its ends find its blocks.
    index_by_low = {low: index for index, (low, high) in enumerate(blocks)}
    index_by_high = {high: index for index, (low, high) in enumerate(blocks)}
    return tuple([(index_by_low[low], index_by_high[high]) for low, high in intervals])
