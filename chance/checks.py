"""Tests: which things are tests, which values pass them, and what tries for a test come to."""

from chance.kinds import has_head, is_integer
from chance.values import compare, is_value, size_of, sum_of

MOST_LEVELS = 6

# The number of items of a test, its head included.
LENGTHS = {
    "equals": 2,
    "less": 2,
    "even": 1,
    "size": 2,
    "rising": 1,
    "not": 2,
    "both": 3,
    "either": 3,
    "all": 2,
    "any": 2,
}


def is_test(thing):
    """Return True if a thing of any kind is a test."""
    return _fits(thing, MOST_LEVELS)


def _fits(thing, levels):
    """Return True if a thing is a test that is nested at most so many levels deep."""
    if levels == 0 or not has_head(thing) or LENGTHS.get(thing[0]) != len(thing):
        return False
    if thing[0] == "equals":
        return is_value(thing[1])
    if thing[0] in ("less", "size"):
        return is_integer(thing[1])
    for inner in thing[1:]:
        if not _fits(inner, levels - 1):
            return False
    return True


def holds(test, value):
    """Return True if the value passes the test."""
    head = test[0]
    if head == "equals":
        return compare(value, test[1]) == 0
    if head == "less":
        return sum_of(value) < test[1]
    if head == "even":
        return sum_of(value) % 2 == 0
    if head == "size":
        return size_of(value) == test[1]
    if head == "rising":
        return _is_rising(value)
    if head == "not":
        return not holds(test[1], value)
    if head == "both":
        return holds(test[1], value) and holds(test[2], value)
    if head == "either":
        return holds(test[1], value) or holds(test[2], value)
    told = [holds(test[1], part) for part in _parts(value)]
    return all(told) if head == "all" else any(told)


def _parts(value):
    """Return the list of the parts of a value; an integer is its own only part."""
    if isinstance(value, int):
        return [value]
    return list(value)


def _is_rising(value):
    """Return True if no part of a value is greater than the next one."""
    parts = _parts(value)
    for one, two in zip(parts, parts[1:]):
        if compare(one, two) > 0:
            return False
    return True


def tried(whole, failing, tries):
    """Return by what so many tries for a test multiply a passing case, and in how many cases all fail.

    One try has so many cases, of which so many fail.
    """
    factor = 0
    failed = 1
    for _ in range(tries):
        factor = factor * whole + failed
        failed = failed * failing
    return (factor, failed)
