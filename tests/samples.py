"""Values that several test files use."""

from itertools import combinations, combinations_with_replacement

LAST = 10 ** 12


def intervals_up_to(last):
    return tuple(combinations_with_replacement(range(last + 1), 2))


def points(many, first=0):
    """Make as many intervals of one position each, one beside the other."""
    return tuple((first + k, first + k) for k in range(many))


def subsets(intervals, most):
    """Make all ascending tuples of at most so many of the intervals."""
    return [rows for many in range(most + 1) for rows in combinations(sorted(intervals), many)]


def counted_blocks(intervals):
    """Find the blocks position by position."""
    blocks = []
    before = set()
    for position in range(max((high for low, high in intervals), default=-1) + 1):
        inside = {at for at, (low, high) in enumerate(intervals) if low <= position <= high}
        if inside and inside == before:
            blocks[-1] = (blocks[-1][0], position)
        elif inside:
            blocks.append((position, position))
        before = inside
    return tuple(blocks)


def scattered(many, step, length, last):
    """Make many intervals in no order, among them nested, overlapping and touching ones."""
    lows = [k * step * step % last for k in range(many)]
    return tuple((low, min(last, low + k * length % 17)) for k, low in enumerate(lows))


def nested(levels, make):
    value = 0
    for level in range(levels):
        value = make(value)
    return value


# None of these is an interval, a tuple of intervals, or equal in kind to one.
NO_TUPLES = (
    None, True, False, 0, 1, -1, LAST, 10 ** 29, -(10 ** 29),
    "", "0-1", "tuple", "(0, 1)", "x" * 2000, "a\nb",
    [], [0, 1], [(0, 1)], [(0, 1), (0, 3)], [[0, 1]], ["a"], [None] * 1000,
    {}, {"low": 0, "high": 1}, {"0": (0, 1)}, {"a": {"b": [()]}},
    nested(20, lambda value: [value]), nested(20, lambda value: {"a": value}),
)

WRONG_INTERVALS = NO_TUPLES + (
    (), (0,), (0, 1, 2), (0, 1, 1), ((0, 1),), ((0, 1), (0, 3)), ((0, 1), 1), (0, (0, 1)),
    (1, 0), (LAST, LAST - 1), (LAST, 0), (-1, 0), (-1, -1), (-2, -1), (0, -1),
    (0, LAST + 1), (LAST + 1, LAST + 1), (LAST, LAST + 1), (LAST + 1, LAST + 2), (0, 10 ** 29), (-(10 ** 29), 0),
    (0, True), (False, 1), (False, True), (True, True), (False, False), (0, False), (True, 5), (True, 1),
    (None, None), (0, None), (None, 0), ("0", "1"), (0, "1"), ("0", 1), ("a", "b"),
    ([0], [1]), ([], 1), (0, []), ({}, {}), (0, {}), (0, [1]), ([0, 1],), (0, ()), ((), ()),
    nested(20, lambda value: (value,)), nested(20, lambda value: (0, value)), (0,) * 1000,
)

RIGHT_INTERVALS = (
    (0, 0), (0, 1), (2, 2), (2, 3), (0, 10), (17, 4000), (0, LAST), (1, LAST - 1), (LAST - 1, LAST), (LAST, LAST),
)

# None of these is the text of an interval; none has a space in it.
WRONG_WORDS = (
    "", "-", "0", "7", "0-", "-0", "-3", "0--1", "--", "0-1-2", "0-1-", "-0-1", "0_1", "0:1", "0,1", "0/1", "01", "0.5-1",
    "00-1", "0-01", "00-00", "01-2", "1-02", "007-009", "0-00", "+0-1", "0-+1", "-0-1", "0--1", "-1-1", "-2--1",
    "1-0", "3-2", f"{LAST}-0", f"{LAST}-{LAST - 1}", f"0-{LAST + 1}", f"{LAST + 1}-{LAST + 1}", f"{LAST}-{LAST + 1}",
    "0-9999999999999", "0-10000000000000", f"0-{10 ** 29}", f"0-1{'0' * 1990}", "9" * 1990 + "-1", "0-" + "0" * 1990,
    "0-1\n", "\n0-1", "0\n-1", "0-\n1", "\n", "0-1\n0-2", "0-1\n2-3", "\n\n", "0-1\t", "a-b", "a", "0-a", "a-0", "0x1-2",
    "0-0x1", "1e3-2", "0-1e3", "0-1_0", "1_0-20", "none", "None", "none\n", "NONE", "nones", "(0,1)", "0-1,", "0-1;", "'0-1'",
    "True-1", "0-True", "x" * 2000, "@", "2@0-3", "0-3@2",
)

# Ways to move an interval between 0 and 9 that keep what it has in common with others.
MOVES = {
    "small": lambda interval: interval,
    "near the last position": lambda interval: (interval[0] + LAST - 9, interval[1] + LAST - 9),
    "long": lambda interval: (interval[0] * 10 ** 11, interval[1] * 10 ** 11 + 10 ** 11 - 1),
}


def all_moved(move, intervals):
    return tuple(map(move, intervals))


def items_changed(value):
    """Make tuples and a list of the same items: out of order, more, fewer."""
    yield list(value)
    yield value + value
    yield value[::-1]
    for at in range(len(value)):
        yield value[:at] + value[at + 1:]
        yield value[:at + 1] + value[at:]
        yield value[:at] + value[at + 1:at + 2] + value[at:at + 1] + value[at + 2:]


def parts_replaced(value, parts):
    """Make values in which one part of the value, at any depth, is replaced by another part or in other ways."""
    yield from parts
    if isinstance(value, tuple):
        yield from items_changed(value)
        for at, item in enumerate(value):
            for changed in parts_replaced(item, parts):
                yield value[:at] + (changed,) + value[at + 1:]
    elif isinstance(value, int):
        yield from (value - 1, value + 1, value == 1, -value, str(value), [value], (value,))
