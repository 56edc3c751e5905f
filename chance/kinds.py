"""Kinds of things: what several files ask about a thing of any kind."""


def is_integer(thing):
    """Return True if a thing is an integer; True and False are none."""
    return isinstance(thing, int) and not isinstance(thing, bool)


def is_within(thing, low, high):
    """Return True if a thing is an integer from low to high."""
    return is_integer(thing) and low <= thing <= high


def has_head(thing):
    """Return True if a thing is a tuple that begins with a string."""
    return isinstance(thing, tuple) and len(thing) > 0 and isinstance(thing[0], str)


def alike(thing, known):
    """Return True if a thing of any kind equals one of integers, strings, None, lists and tuples of such.

    True is not 1 here, and a list is no tuple. It keeps a list of what it still
    has to visit, since what is known may be nested deeper than Python nests calls.
    """
    waiting = [(thing, known)]
    while waiting:
        left, right = waiting.pop()
        if isinstance(right, (list, tuple)):
            same_kind = isinstance(left, list) if isinstance(right, list) else isinstance(left, tuple)
            if not same_kind or len(left) != len(right):
                return False
            waiting.extend(list(zip(left, right)))
        elif right is None:
            if left is not None:
                return False
        elif isinstance(right, str):
            if not isinstance(left, str) or left != right:
                return False
        elif not is_integer(left) or left != right:
            return False
    return True
