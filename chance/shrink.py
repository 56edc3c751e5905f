"""Shrinking: from a tape that fails to one below which no tape fails."""

from chance.checks import holds
from chance.errors import Impossible
from chance.kinds import alike
from chance.tapes import run, trimmed


def candidates(numbers):
    """Return the list of the tapes one step below a tape without zeros at its end."""
    found = []
    for at in range(len(numbers)):
        found.append(numbers[:at] + numbers[at + 1:])
    for at in range(len(numbers)):
        for lower in _lower(numbers[at]):
            found.append(numbers[:at] + [lower] + numbers[at + 1:])
    listed = {}
    for tape in found:
        short = trimmed(tape)
        listed[tuple(short)] = short
    return list(listed.values())


def _lower(number):
    """Return what takes the place of a number one step below, in order."""
    if number == 0:
        return []
    found = [0]
    power = 1 << (number.bit_length() - 1)
    while power > 0:
        found.append(number - power)
        power = power >> 1
    return found


def _fails(test, value):
    """Return True if a run with the value, or None if it was discarded, fails."""
    return value is not None and holds(test, value)


def _first_failing(term, test, tapes):
    """Return the told numbers, without zeros at the end, of the first of the tapes that fails, or None."""
    for tape in tapes:
        value, told = run(term, tape)
        if _fails(test, value):
            return trimmed(told)
    return None


def shrink(term, test, numbers):
    """Return the tape at which shrinking a tape that fails ends."""
    lower = _first_failing(term, test, [numbers])
    if lower is None:
        raise Impossible("tape")
    found = lower
    while lower is not None:
        found = lower
        lower = _first_failing(term, test, candidates(found))
    return found


def paper(term, numbers):
    """Return the list of pairs of each tape one step below and its value, or None if it is discarded."""
    return [(tape, run(term, tape)[0]) for tape in candidates(numbers)]


def is_least(term, test, numbers, told):
    """Return True if the tape fails, no tape one step below fails, and a thing of any kind is its paper."""
    if not _fails(test, run(term, numbers)[0]):
        return False
    rows = paper(term, numbers)
    if not alike(told, rows):
        return False
    return not any([_fails(test, value) for _, value in rows])
