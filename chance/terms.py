"""Terms: which things are closed terms, what stands inside of a term, and what stands for what."""

from chance.checks import is_test
from chance.errors import Invalid
from chance.kinds import has_head, is_within
from chance.values import is_value

MOST_LEVELS = 24
MOST_PARTS = 64
MOST_WEIGHT = 1000000000000000
# A range holds at most 64 integers, so this is the greatest number of an upto, too.
MOST_ABOVE_LOW = 63
MOST_REPEATS = 6
MOST_SHUFFLED = 4
MOST_TRIES = 4
MOST_GROWTH = 4
MOST_LETTERS = 12

# The number of items of a term, its head included.
LENGTHS = {
    "const": 2,
    "discard": 1,
    "range": 3,
    "pick": 2,
    "weigh": 2,
    "tuple": 2,
    "list": 4,
    "shuffle": 2,
    "map": 3,
    "keep": 4,
    "let": 4,
    "var": 2,
    "upto": 2,
    "grow": 4,
    "self": 1,
}

# The same of an operation.
OPERATIONS = {"add": 2, "mul": 2, "mod": 2, "sum": 1, "size": 1, "sort": 1, "reverse": 1, "flat": 1}

# How many of the last items of a term are the terms inside.
LAST_PARTS = {"list": 1, "map": 1, "keep": 1, "let": 2, "grow": 2}


class Scope:
    """The values of variables by their names, and what a self stands for.

    A self stands for the pair of a grow and the scope of that grow, or for None
    outside of all grows.
    """

    def __init__(self, names, smaller):
        self.names = names
        self.smaller = smaller


def is_term(thing):
    """Return True if a thing of any kind is a closed term."""
    return is_formed(thing, MOST_LEVELS) and is_closed(thing) and not has_free_self(thing)


def checked(thing):
    """Return a thing of any kind if it is a closed term."""
    if not is_term(thing):
        raise Invalid("term")
    return thing


def is_formed(thing, levels):
    """Return True if a thing is a term, perhaps an open one, of at most so many levels."""
    if levels == 0 or not has_head(thing) or LENGTHS.get(thing[0]) != len(thing) or not _has_items(thing):
        return False
    for part in parts_of(thing):
        if not is_formed(part, levels - 1):
            return False
    return True


def _has_items(term):
    """Return True if what a term holds beside the terms inside is as its head asks for."""
    head = term[0]
    if head == "const":
        return is_value(term[1])
    if head == "range":
        return is_within(term[1], -1000, 1000) and is_within(term[2], term[1], term[1] + MOST_ABOVE_LOW)
    if head in ("pick", "tuple"):
        return _is_row(term[1], 0 if head == "tuple" else 1)
    if head == "weigh":
        return _is_row(term[1], 1) and all([_is_weighed(pair) for pair in term[1]])
    if head == "list":
        return is_within(term[1], 0, MOST_REPEATS) and is_within(term[2], term[1], MOST_REPEATS)
    if head == "shuffle":
        return is_value(term[1]) and isinstance(term[1], tuple) and len(term[1]) <= MOST_SHUFFLED
    if head == "map":
        return _is_operation(term[1])
    if head == "keep":
        return is_test(term[1]) and is_within(term[2], 1, MOST_TRIES)
    if head == "grow":
        return is_within(term[1], 0, MOST_GROWTH)
    if head in ("let", "var", "upto"):
        return _is_name(term[1])
    return True


def _is_row(thing, least):
    """Return True if a thing is a tuple of at least so many items, and of at most 64."""
    return isinstance(thing, tuple) and least <= len(thing) <= MOST_PARTS


def _is_weighed(thing):
    """Return True if a thing is a pair of a weight and anything else."""
    return isinstance(thing, tuple) and len(thing) == 2 and is_within(thing[0], 1, MOST_WEIGHT)


def _is_operation(thing):
    """Return True if a thing is an operation."""
    if not has_head(thing) or OPERATIONS.get(thing[0]) != len(thing):
        return False
    if thing[0] == "mod":
        return is_within(thing[1], 1, 1000)
    if thing[0] in ("add", "mul"):
        return is_within(thing[1], -1000, 1000)
    return True


def _is_name(thing):
    """Return True if a thing is the name of a variable."""
    if not isinstance(thing, str) or not 1 <= len(thing) <= MOST_LETTERS:
        return False
    return all(["a" <= letter <= "z" for letter in thing])


def parts_of(term):
    """Return the list of the terms inside a term, from left to right."""
    head = term[0]
    if head in ("pick", "tuple"):
        return list(term[1])
    if head == "weigh":
        return [pair[1] for pair in term[1]]
    return list(term[len(term) - LAST_PARTS.get(head, 0):])


def rebuilt(term, parts):
    """Return the term with as many other terms inside."""
    head = term[0]
    if head in ("pick", "tuple"):
        return (head, tuple(parts))
    if head == "weigh":
        return (head, tuple([(pair[0], part) for pair, part in zip(term[1], parts)]))
    return term[:len(term) - len(parts)] + tuple(parts)


def uses(term, name):
    """Return True if the variable is free in the term."""
    if term[0] in ("var", "upto"):
        return term[1] == name
    parts = parts_of(term)
    if term[0] == "let" and term[1] == name:
        # In the last part the name means another variable.
        parts = parts[:1]
    for part in parts:
        if uses(part, name):
            return True
    return False


def is_closed(term, names=()):
    """Return True if all free variables of the term are among these names."""
    if term[0] in ("var", "upto"):
        return term[1] in names
    if term[0] == "let":
        return is_closed(term[2], names) and is_closed(term[3], (*names, term[1]))
    for part in parts_of(term):
        if not is_closed(part, names):
            return False
    return True


def has_free_self(term):
    """Return True if a self in the term belongs to no grow in it."""
    if term[0] == "self":
        return True
    parts = parts_of(term)
    if term[0] == "grow":
        # Each self in the last part belongs to this grow or to one further inside.
        parts = parts[:1]
    for part in parts:
        if has_free_self(part):
            return True
    return False


def replaced(term, value):
    """Return what a var or an upto is replaced by if its variable has the value."""
    if term[0] == "var":
        return ("const", value)
    if is_within(value, 0, MOST_ABOVE_LOW):
        return ("range", 0, value)
    return ("const", 0)


def substitute(term, name, value):
    """Return the term in which the value replaces the variable where it is free."""
    if term[0] in ("var", "upto"):
        return replaced(term, value) if term[1] == name else term
    parts = parts_of(term)
    if term[0] == "let" and term[1] == name:
        # In the last part the name means another variable.
        return rebuilt(term, [substitute(parts[0], name, value), parts[1]])
    found = []
    for part in parts:
        found.append(substitute(part, name, value))
    return rebuilt(term, found)


def unfolded(term):
    """Return what a grow stands for."""
    _, size, first, last = term
    if size == 0:
        return first
    return _with_self(last, ("grow", size - 1, first, last))


def _with_self(term, smaller):
    """Return the last part of a grow in which the smaller grow replaces each self of its own."""
    if term[0] == "self":
        return smaller
    parts = parts_of(term)
    if term[0] == "grow":
        # Each self in the last part belongs to this grow or to one further inside.
        return rebuilt(term, [_with_self(parts[0], smaller), parts[1]])
    found = []
    for part in parts:
        found.append(_with_self(part, smaller))
    return rebuilt(term, found)


def meant_by(term, scope):
    """Return what a var, an upto or a self stands for, any other term as it is, and the scope of that."""
    if term[0] == "self":
        return scope.smaller
    if term[0] in ("var", "upto"):
        return (replaced(term, scope.names[term[1]]), scope)
    return (term, scope)


def named(scope, name, value):
    """Return the scope of the last part of a let in the scope."""
    return Scope({**scope.names, name: value}, scope.smaller)


def grown(scope, term):
    """Return the scope of the last part of a grow in the scope."""
    _, size, first, last = term
    return Scope(scope.names, (("grow", size - 1, first, last), scope))
