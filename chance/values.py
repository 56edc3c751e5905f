"""Values: integers and nested tuples of them, their order and the operations.

A run or an operation may give tuples that are nested deeper than Python nests
calls. So everything but `is_value` keeps a list of what it still has to visit
instead of calling itself, and no two tuples are compared by `==` or `<`.
"""

from chance.kinds import is_integer

MOST_PARTS = 64
MOST_LEVELS = 8


def is_value(thing):
    """Return True if a thing of any kind is a value."""
    return _fits(thing, MOST_LEVELS)


def _fits(thing, levels):
    """Return True if a thing is a value of at most so many levels of tuples."""
    if is_integer(thing):
        return True
    if not isinstance(thing, tuple) or levels == 0 or len(thing) > MOST_PARTS:
        return False
    for part in thing:
        if not _fits(part, levels - 1):
            return False
    return True


def _rank(value):
    """Return the pair that orders values as far as their parts do not matter."""
    if isinstance(value, int):
        return (0, value)
    return (1, len(value))


def compare(one, two):
    """Return -1, 0 or 1 if the first value is less, equal or greater."""
    waiting = [(one, two)]
    while waiting:
        left, right = waiting.pop()
        if _rank(left) != _rank(right):
            return -1 if _rank(left) < _rank(right) else 1
        if isinstance(left, tuple):
            waiting.extend(list(zip(left, right))[::-1])
    return 0


def ranks_of(value):
    """Return the ranks of a value and of all that is in it, from left to right, in one flat tuple.

    Values are equal if their ranks are, and are ordered as their ranks are: the
    first ranks that differ are those at which `compare` decides, too.
    """
    ranks = []
    waiting = [value]
    while waiting:
        part = waiting.pop()
        ranks.extend(_rank(part))
        if isinstance(part, tuple):
            waiting.extend(part[::-1])
    return tuple(ranks)


def ascending(values):
    """Return the list of these values in ascending order, with duplicates."""
    return sorted(values, key=ranks_of)


def place_of(value, found):
    """Return how many values of an ascending list are less."""
    low = 0
    high = len(found)
    while low < high:
        middle = (low + high) // 2
        if compare(found[middle], value) < 0:
            low = middle + 1
        else:
            high = middle
    return low


def sum_of(value):
    """Return the sum of all integers in a value, at any depth."""
    found = 0
    waiting = [value]
    while waiting:
        part = waiting.pop()
        if isinstance(part, int):
            found += part
        else:
            waiting.extend(part)
    return found


def size_of(value):
    """Return 0 for an integer, and otherwise the number of parts of a tuple."""
    if isinstance(value, int):
        return 0
    return len(value)


def apply(operation, value):
    """Return what an operation makes of a value."""
    head = operation[0]
    if head == "sum":
        return sum_of(value)
    if head == "size":
        return size_of(value)
    if head in ("add", "mul", "mod"):
        return _with_changed_integers(operation, value)
    if isinstance(value, int):
        return value
    if head == "sort":
        return tuple(ascending(value))
    if head == "reverse":
        return value[::-1]
    return _flat(value)


def _with_changed_integers(operation, value):
    """Return the value in which an operation changed each integer, at any depth."""
    parts = []
    waiting = [value]
    while waiting:
        part = waiting.pop()
        parts.append(part)
        if isinstance(part, tuple):
            waiting.extend(part)
    # From the end of `parts`, what is in a tuple comes before it, from left to right.
    done = []
    for part in reversed(parts):
        if isinstance(part, int):
            done.append(_changed_integer(operation, part))
        else:
            first = len(done) - len(part)
            done[first:] = [tuple(done[first:])]
    return done[0]


def _changed_integer(operation, number):
    """Return what `add`, `mul` or `mod` makes of an integer."""
    head, by = operation
    if head == "add":
        return number + by
    if head == "mul":
        return number * by
    return number % by


def _flat(value):
    """Return the tuple in which the parts of its tuples stand in their place."""
    found = []
    for part in value:
        if isinstance(part, tuple):
            found.extend(part)
        else:
            found.append(part)
    return tuple(found)
