"""Intervals and demands as texts."""

from fewspans.bounds import LAST_POSITION
from fewspans.errors import BadText
from fewspans.intervals import is_interval


def interval_text(interval):
    """Return the text of an interval, for example 0-3."""
    low, high = interval
    return f"{low}-{high}"


def joined_texts(texts):
    return " ".join(texts) if texts else "none"


def intervals_text(intervals):
    """Return the texts of the intervals with one space between two, or none."""
    return joined_texts([interval_text(interval) for interval in intervals])


def demand_text(demand):
    """Return the text of a demand, for example 2@0-3."""
    position, target = demand
    return f"{position}@{interval_text(target)}"


def parse_number(text):
    """Return the number from 0 on whose text it is, or None."""
    # A longer text is not that of a position, and Python does not read very long ones as numbers.
    if not text.isdecimal() or len(text) > len(str(LAST_POSITION)):
        return None
    number = int(text)
    # Leading zeros, and digits of other scripts, do not come back.
    return number if str(number) == text else None


def parse_interval(word):
    """Return the interval whose text the word is, or None."""
    low, hyphen, high = word.partition("-")
    interval = (parse_number(low), parse_number(high))
    return interval if is_interval(interval) else None


def parse_intervals(text):
    """Return the ascending tuple of intervals whose text any value is."""
    if not isinstance(text, str):
        raise BadText(None)
    if text == "none":
        return ()
    intervals = []
    for index, word in enumerate(text.split(" ")):
        interval = parse_interval(word)
        if interval is None or (intervals and interval <= intervals[-1]):
            raise BadText(index)
        intervals.append(interval)
    return tuple(intervals)
