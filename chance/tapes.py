"""Tapes: the runs of terms on tapes, and the paths of a term.

A run does not rewrite terms. Beside each term it keeps a scope, which tells
what its variables and its self stand for; so a run takes no longer than its
steps, however large the terms are that replacing them would give.
"""

from chance.checks import holds
from chance.errors import Impossible, TooLarge
from chance.terms import Scope, checked, grown, meant_by, named
from chance.values import apply, compare

MOST_STEPS = 4000
MOST_AROUND = 100
MOST_PATHS = 3000


class Discarded(Exception):
    """The run is discarded."""


class Tape:
    """A tape of numbers, the draws that took them, and the steps of a run on it."""

    def __init__(self, numbers):
        self.told = []
        self.sizes = []
        # The next number stands at the end, where it is taken off.
        self._left = list(numbers)[::-1]
        self._steps = 0

    def draw(self, size):
        """Return the number that a draw of the size gives."""
        if size == 1:
            return 0
        number = self._left.pop() % size if self._left else 0
        self.told.append(number)
        self.sizes.append(size)
        return number

    def step(self):
        """Count a step."""
        self._steps += 1
        if self._steps > MOST_STEPS:
            raise TooLarge("steps")


def _run_const(term, scope, tape, around):
    """Return the value of a const."""
    return term[1]


def _run_discard(term, scope, tape, around):
    """Discard the run."""
    raise Discarded()


def _run_range(term, scope, tape, around):
    """Return the value of a run of a range."""
    _, low, high = term
    return low + tape.draw(high - low + 1)


def _run_pick(term, scope, tape, around):
    """Return the value of a run of a pick."""
    parts = term[1]
    return _value(parts[tape.draw(len(parts))], scope, tape, around)


def _run_weigh(term, scope, tape, around):
    """Return the value of a run of a weigh."""
    pairs = term[1]
    number = tape.draw(sum([pair[0] for pair in pairs]))
    at = 0
    reached = pairs[0][0]
    while reached <= number:
        at += 1
        reached += pairs[at][0]
    return _value(pairs[at][1], scope, tape, around)


def _run_tuple(term, scope, tape, around):
    """Return the value of a run of a tuple."""
    found = []
    for part in term[1]:
        found.append(_value(part, scope, tape, around))
    return tuple(found)


def _run_list(term, scope, tape, around):
    """Return the value of a run of a list."""
    _, low, high, part = term
    length = low + tape.draw(high - low + 1)
    found = []
    for _ in range(length):
        found.append(_value(part, scope, tape, around))
    return tuple(found)


def _run_shuffle(term, scope, tape, around):
    """Return the value of a run of a shuffle."""
    found = list(term[1])
    for at in range(len(found) - 1, 0, -1):
        other = tape.draw(at + 1)
        found[at], found[other] = found[other], found[at]
    return tuple(found)


def _run_map(term, scope, tape, around):
    """Return the value of a run of a map."""
    _, operation, part = term
    return apply(operation, _value(part, scope, tape, around))


def _run_keep(term, scope, tape, around):
    """Return the value of a run of a keep."""
    _, test, tries, part = term
    for _ in range(tries):
        value = _value(part, scope, tape, around)
        if holds(test, value):
            return value
    raise Discarded()


def _run_let(term, scope, tape, around):
    """Return the value of a run of a let."""
    _, name, first, last = term
    value = _value(first, scope, tape, around)
    return _value(last, named(scope, name, value), tape, around)


def _run_grow(term, scope, tape, around):
    """Return the value of a run of a grow."""
    _, size, first, last = term
    if size == 0:
        return _value(first, scope, tape, around)
    return _value(last, grown(scope, term), tape, around)


ACTIONS = {
    "const": _run_const,
    "discard": _run_discard,
    "range": _run_range,
    "pick": _run_pick,
    "weigh": _run_weigh,
    "tuple": _run_tuple,
    "list": _run_list,
    "shuffle": _run_shuffle,
    "map": _run_map,
    "keep": _run_keep,
    "let": _run_let,
    "grow": _run_grow,
}


def _value(term, scope, tape, around):
    """Return the value of a run of a term inside so many others that are being run."""
    meant, inner = meant_by(term, scope)
    tape.step()
    if around == MOST_AROUND:
        raise TooLarge("depth")
    action = ACTIONS[meant[0]]
    return action(meant, inner, tape, around + 1)


def _outcome(term, tape):
    """Return the value of a run of a closed term on the tape, or None if it is discarded."""
    try:
        return _value(term, Scope({}, None), tape, 0)
    except Discarded:
        return None


def run(term, numbers):
    """Return the value, or None if the run is discarded, and the told numbers."""
    closed = checked(term)
    tape = Tape(numbers)
    value = _outcome(closed, tape)
    return (value, tape.told)


def trimmed(numbers):
    """Return the list without the zeros at its end."""
    found = list(numbers)
    while found and found[-1] == 0:
        found.pop()
    return found


def paths(term):
    """Return the list of the told numbers, the sizes and the value or None of all runs."""
    closed = checked(term)
    found = []
    numbers = []
    while numbers is not None:
        if len(found) == MOST_PATHS:
            raise TooLarge("paths")
        tape = Tape(numbers)
        value = _outcome(closed, tape)
        found.append((tuple(tape.told), tuple(tape.sizes), value))
        numbers = _following(tape)
    return found


def _following(tape):
    """Return the numbers that lead to the next run, in the order of the told numbers, or None."""
    at = len(tape.told) - 1
    while at >= 0 and tape.told[at] == tape.sizes[at] - 1:
        at -= 1
    if at < 0:
        return None
    return tape.told[:at] + [tape.told[at] + 1]


def shorter(one, two):
    """Return True if the first tape comes before the second one."""
    if len(one) != len(two):
        return len(one) < len(two)
    return one < two


def tape_of(term, value):
    """Return the first tape, without zeros at its end, on which the term gives the value."""
    best = None
    for told, _, found in paths(term):
        if found is None or compare(found, value) != 0:
            continue
        numbers = trimmed(told)
        if best is None or shorter(numbers, best):
            best = numbers
    if best is None:
        raise Impossible("value")
    return best
