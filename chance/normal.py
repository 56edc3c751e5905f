"""Normal forms: a log from each closed term to the one normal term with the same chances.

The log works from the inside to the outside: what stands inside a term becomes
normal first, so that the terms on the way stay as small as can be.
"""

from math import gcd

from chance.errors import TooLarge
from chance.logs import with_part
from chance.rules import apply_rule
from chance.terms import MOST_LEVELS, checked, has_free_self, is_closed, is_formed, parts_of, rebuilt
from chance.values import compare

LOST = ("discard",)
# Far more than any term takes for which the document allows no error.
MOST_STEPS = 50000
MOST_AROUND = 100


class Way:
    """The way from a term to its normal form: the log so far."""

    def __init__(self):
        self.log = []
        self._around = 0

    def after(self, rule, term, path, numbers):
        """Return what a rule makes of the term at a path, and write the step into the log."""
        found = apply_rule(rule, term, numbers)
        if found is None or not self._fits(rule, found, path):
            raise TooLarge("term")
        self.log.append((rule, path, numbers))
        if len(self.log) > MOST_STEPS:
            raise TooLarge("steps")
        return found

    def _fits(self, rule, found, path):
        """Return True if the whole term is still one with what a rule made at a path."""
        # No rule frees a variable or a self. The rules of weigh do not change what stands in the pairs.
        return rule.startswith("weigh-") or is_formed(found, MOST_LEVELS - len(path))

    def enter(self):
        """Begin to make a term normal, perhaps inside of others."""
        self._around += 1
        if self._around > MOST_AROUND:
            raise TooLarge("depth")

    def leave(self):
        """End what `enter` began."""
        self._around -= 1


def _from_pick(term, path, way):
    """Make a pick normal and return it."""
    return _normal(way.after("pick-weigh", term, path, ()), path, way)


def _from_range(term, path, way):
    """Make a range normal and return it."""
    return _normal(way.after("range-weigh", term, path, ()), path, way)


def _from_shuffle(term, path, way):
    """Make a shuffle normal and return it."""
    return _normal(way.after("shuffle-weigh", term, path, ()), path, way)


def _from_map(term, path, way):
    """Make a map normal and return it."""
    now = with_part(term, 0, _normal(term[2], path + (0,), way))
    return _normal(way.after("map-inside", now, path, ()), path, way)


def _from_keep(term, path, way):
    """Make a keep normal and return it."""
    now = with_part(term, 0, _normal(term[3], path + (0,), way))
    return _normal(way.after("keep-inside", now, path, ()), path, way)


def _from_list(term, path, way):
    """Make a list normal and return it."""
    now = term
    # If no list has any part, the part may be of whatever size.
    if term[2] > 0:
        now = with_part(term, 0, _normal(term[3], path + (0,), way))
    return _normal(way.after("list-weigh", now, path, ()), path, way)


def _from_tuple(term, path, way):
    """Make a tuple normal and return it."""
    parts = parts_of(term)
    for at in range(len(parts)):
        # Behind a discard nothing matters.
        if LOST not in parts:
            parts[at] = _normal(parts[at], path + (at,), way)
    now = rebuilt(term, parts)
    for at in range(len(parts)):
        if parts[at] == LOST:
            return way.after("tuple-at", now, path, (at,))
    for at in range(len(parts)):
        if parts[at][0] == "weigh":
            return _normal(way.after("tuple-at", now, path, (at,)), path, way)
    return way.after("tuple-const", now, path, ())


def _from_let(term, path, way):
    """Make a let normal and return it."""
    now = _without_idle(term, path, way)
    if apply_rule("let-unused", now, ()) is None:
        now = with_part(now, 0, _normal(now[2], path + (0,), way))
    if apply_rule("let-unused", now, ()) is not None:
        return _normal(way.after("let-unused", now, path, ()), path, way)
    return _normal(way.after("let-inside", now, path, ()), path, way)


def _from_grow(term, path, way):
    """Make a grow normal and return it."""
    now = _without_idle(term, path, way)
    if now[0] == "grow":
        now = way.after("grow-unfold", now, path, ())
    return _normal(now, path, way)


def _without_idle(term, path, way):
    """Return the term in which the grows with a part that is never run became what they stand for.

    Such a part could be so deep that no other rule applies.
    """
    if term[0] == "grow" and is_closed(term) and (term[1] == 0 or not has_free_self(term[3])):
        return _without_idle(way.after("grow-unfold", term, path, ()), path, way)
    now = term
    for at, part in enumerate(parts_of(term)):
        now = with_part(now, at, _without_idle(part, path + (at,), way))
    return now


def _from_weigh(term, path, way):
    """Make a weigh normal and return it."""
    now = _reduced(_merged(term, path, way), path, way)
    at = _first_open(now)
    while at is not None:
        part = _normal(now[1][at][1], path + (at,), way)
        now = with_part(now, at, part)
        if part[0] == "weigh":
            now = way.after("weigh-flat", now, path, (at,))
        now = _reduced(_merged(now, path, way), path, way)
        at = _first_open(now)
    if len(now[1]) == 1:
        return way.after("weigh-one", now, path, ())
    return _in_order(now, path, way)


def _first_open(term):
    """Return the index of the first pair of a weigh with neither a constant nor a discard, or None."""
    for at, part in enumerate(parts_of(term)):
        if part[0] not in ("const", "discard"):
            return at
    return None


def _merged(term, path, way):
    """Merge the pairs of a weigh that have equal terms, and return it."""
    now = term
    for second in range(len(term[1]) - 1, 0, -1):
        parts = parts_of(now)
        first = 0
        while parts[first] != parts[second]:
            first += 1
        if first < second:
            now = way.after("weigh-merge", now, path, (first, second))
    return now


def _reduced(term, path, way):
    """Divide the weights of a weigh by their greatest common divisor, and return it."""
    common = 0
    for weight, _ in term[1]:
        common = gcd(common, weight)
    if common == 1:
        return term
    return way.after("weigh-reduce", term, path, (common,))


def _in_order(term, path, way):
    """Put the pairs of a weigh of different constants and discards into their order, and return it."""
    now = term
    for first in range(len(term[1])):
        parts = parts_of(now)
        least = first
        for at in range(first + 1, len(parts)):
            if _is_before(parts[at], parts[least]):
                least = at
        if least > first:
            now = way.after("weigh-swap", now, path, (first, least))
    return now


def _is_before(one, two):
    """Return True if a constant or discard comes before a different one."""
    if one == LOST:
        return False
    return two == LOST or compare(one[1], two[1]) < 0


ACTIONS = {
    "range": _from_range,
    "pick": _from_pick,
    "weigh": _from_weigh,
    "tuple": _from_tuple,
    "list": _from_list,
    "shuffle": _from_shuffle,
    "map": _from_map,
    "keep": _from_keep,
    "let": _from_let,
    "grow": _from_grow,
}


def _normal(term, path, way):
    """Make the closed term at a path normal and return it."""
    if term[0] in ("const", "discard"):
        return term
    way.enter()
    action = ACTIONS[term[0]]
    found = action(term, path, way)
    way.leave()
    return found


def normal(term):
    """Return the pair of the normal form of a closed term and a log that leads to it."""
    way = Way()
    found = _normal(checked(term), (), way)
    return (found, way.log)


def same_chances(one, two):
    """Return True if the normal forms of two closed terms are equal."""
    first, _ = normal(one)
    second, _ = normal(two)
    return first == second
