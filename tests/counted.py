"""Answers that are found without the program: position by position, and by trying everything."""

from itertools import combinations, product
from random import Random

from samples import LAST, intervals_up_to


def pieces_within(pieces, target):
    return [(a, b) for a, b in pieces if target[0] <= a and b <= target[1]]


def left_out(pieces, target):
    """List, position by position, the positions of the target that lie in no piece inside it."""
    inside = pieces_within(pieces, target)
    return [p for p in range(target[0], target[1] + 1) if not any(a <= p <= b for a, b in inside)]


def all_generated(targets, pieces):
    return not any(left_out(pieces, target) for target in targets)


def served(piece, demand):
    """Answer whether the piece serves the demand."""
    (a, b), (position, (low, high)) = piece, demand
    whole = range(low, high + 1)
    return a in whole and b in whole and position in range(a, b + 1)


def between(demands):
    """Make every interval between the positions and ends of the demands."""
    ends = {end for position, (low, high) in demands for end in (position, low, high)}
    return tuple((a, b) for a, b in product(sorted(ends), repeat=2) if a <= b)


def jointly_served(first, second):
    """Answer whether one interval serves both demands."""
    return any(served(piece, first) and served(piece, second) for piece in between((first, second)))


def open_by_count(targets, pieces):
    """List the open demands of the targets at all positions."""
    return [(p, target) for target in targets for p in left_out(pieces, target)]


def needed_by_search(targets, pieces):
    """Try all sets of intervals in order of size, until one serves all open demands."""
    demands = open_by_count(targets, pieces)
    last = max((high for low, high in targets), default=-1)
    # Each interval as a number with one bit for each demand that it serves.
    masks = {
        sum(served(piece, demand) << at for at, demand in enumerate(demands)) for piece in intervals_up_to(last)
    }
    whole = (1 << len(demands)) - 1
    many = 0
    while not any(union(rows) == whole for rows in combinations(masks, many)):
        many += 1
    return many


def union(masks):
    result = 0
    for mask in masks:
        result |= mask
    return result


def most_independent(targets, pieces):
    """Return the size of the largest set of open demands without a conflict, by making all such sets."""
    sets = [()]
    for demand in open_by_count(targets, pieces):
        sets += [rows + (demand,) for rows in sets if not any(jointly_served(demand, other) for other in rows)]
    return max(map(len, sets))


def is_int(value, low, high):
    return type(value) is int and low <= value <= high


def is_span(value):
    """Answer whether any value is an interval."""
    return (
        type(value) is tuple and len(value) == 2 and is_int(value[0], 0, LAST) and is_int(value[1], value[0], LAST)
    )


def is_rising(value, is_item):
    """Answer whether any value is an ascending tuple of items."""
    if type(value) is not tuple or not all(map(is_item, value)):
        return False
    return list(value) == sorted(set(value))


def correct_solution(targets, pieces, value):
    """Answer whether any value is a solution, for targets with few positions."""
    if type(value) is not tuple or len(value) != 2:
        return False
    added, witnesses = value
    demands = open_by_count(targets, pieces)

    def is_open_demand(item):
        return (
            type(item) is tuple and len(item) == 2 and is_int(item[0], 0, LAST) and is_span(item[1]) and item in demands
        )

    if not is_rising(added, is_span) or not is_rising(witnesses, is_open_demand) or len(added) != len(witnesses):
        return False
    if any(jointly_served(first, second) for first, second in combinations(witnesses, 2)):
        return False
    return all_generated(targets, pieces + added)


def drawn(number, last, most_targets, most_pieces):
    """Draw targets and pieces, the same ones for equal numbers."""
    draw = Random(number)
    intervals = intervals_up_to(last)
    targets = draw.sample(intervals, draw.randint(0, min(most_targets, len(intervals))))
    pieces = draw.sample(intervals, draw.randint(0, min(most_pieces, len(intervals))))
    return tuple(sorted(targets)), tuple(sorted(pieces))
