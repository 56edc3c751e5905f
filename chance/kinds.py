"""Kinds of things: what several files ask about a thing of any kind."""


def is_integer(thing):
    """Return True if a thing is an integer; True and False are none."""
    return isinstance(thing, int) and not isinstance(thing, bool)


def is_within(thing, low, high):
    """Return True if a thing is an integer from low to high."""
    return is_integer(thing) and low <= thing <= high


def has_head(thing):
    """Return True if a thing is a tuple that begins with a string."""
    return isinstance(thing, tuple) and len(thing) > 0 and isinstance(thing[0], str)
