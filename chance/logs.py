"""Steps and logs: rules that are applied inside a term, one after the other."""

from chance.errors import BadStep
from chance.kinds import has_head, is_within
from chance.rules import RULES, apply_rule
from chance.terms import checked, is_term, parts_of, rebuilt

MOST_NUMBER = 1000000000000000


def is_step(thing):
    """Return True if a thing of any kind is a step."""
    if not has_head(thing) or len(thing) != 3 or thing[0] not in RULES:
        return False
    return _are_numbers(thing[1]) and _are_numbers(thing[2])


def _are_numbers(thing):
    """Return True if a thing is a tuple of integers that a step may hold."""
    return isinstance(thing, tuple) and all([is_within(number, 0, MOST_NUMBER) for number in thing])


def term_at(term, path):
    """Return the term at a path, or None if the path leads nowhere."""
    found = term
    for at in path:
        parts = parts_of(found)
        if not 0 <= at < len(parts):
            return None
        found = parts[at]
    return found


def with_part(term, at, part):
    """Return the term with another term inside at an index."""
    parts = parts_of(term)
    parts[at] = part
    return rebuilt(term, parts)


def _with_term_at(term, path, inner):
    """Return the term with another term at a path, which leads somewhere."""
    if not path:
        return inner
    part = parts_of(term)[path[0]]
    return with_part(term, path[0], _with_term_at(part, path[1:], inner))


def stepped(term, step):
    """Return the term after a step, or None if the step, a thing of any kind, is none or does not apply."""
    if not is_step(step):
        return None
    name, path, numbers = step
    inner = term_at(term, path)
    if inner is None:
        return None
    changed = apply_rule(name, inner, numbers)
    if changed is None:
        return None
    found = _with_term_at(term, path, changed)
    return found if is_term(found) else None


def replay(term, log):
    """Return the term that a log makes of a closed term."""
    found = checked(term)
    for number, step in enumerate(log):
        found = stepped(found, step)
        if found is None:
            raise BadStep(number)
    return found
