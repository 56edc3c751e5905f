"""Rules: each changes a term into another one with the same chances."""

from chance.checks import holds, tried
from chance.kinds import alike
from chance.terms import MOST_PARTS, MOST_SHUFFLED, MOST_WEIGHT, is_closed, parts_of, substitute, unfolded, uses
from chance.values import apply

LOST = ("discard",)


def _weigh(pairs):
    """Return the weigh of these pairs, or None if it has too many pairs or too great a weight."""
    if len(pairs) > MOST_PARTS or any([weight > MOST_WEIGHT for weight, _ in pairs]):
        return None
    return ("weigh", tuple(pairs))


def _even(terms):
    """Return the weigh of these terms with the weights 1, or None if there are too many."""
    return _weigh([(1, term) for term in terms])


def _has_place(row, at):
    """Return True if a row has something at an index."""
    return 0 <= at < len(row)


def _is_ordered(row, numbers):
    """Return True if a row has something at two indexes, of which the first is less."""
    low, high = numbers
    return low < high and _has_place(row, low) and _has_place(row, high)


def _pick_weigh(term, numbers):
    """Return a pick as a weigh."""
    return _even(term[1])


def _weigh_flat(term, numbers):
    """Return a weigh with the pairs of the weigh at an index in the place of that weigh."""
    pairs = list(term[1])
    at = numbers[0]
    if not _has_place(pairs, at) or pairs[at][1][0] != "weigh":
        return None
    by, inner = pairs[at]
    whole = sum([weight for weight, _ in inner[1]])
    found = [(weight * whole, part) for weight, part in pairs]
    found[at:at + 1] = [(weight * by, part) for weight, part in inner[1]]
    return _weigh(found)


def _weigh_merge(term, numbers):
    """Return a weigh in which the weight of one pair is added to that of another pair with an equal term."""
    pairs = list(term[1])
    if not _is_ordered(pairs, numbers):
        return None
    first, second = numbers
    if not alike(pairs[second][1], pairs[first][1]):
        return None
    pairs[first] = (pairs[first][0] + pairs[second][0], pairs[first][1])
    del pairs[second]
    return _weigh(pairs)


def _weigh_swap(term, numbers):
    """Return a weigh in which two pairs changed their places."""
    pairs = list(term[1])
    if not _is_ordered(pairs, numbers):
        return None
    first, second = numbers
    pairs[first], pairs[second] = pairs[second], pairs[first]
    return _weigh(pairs)


def _weigh_reduce(term, numbers):
    """Return a weigh with its weights divided by a number that divides all of them."""
    by = numbers[0]
    if by < 2 or any([weight % by != 0 for weight, _ in term[1]]):
        return None
    return _weigh([(weight // by, part) for weight, part in term[1]])


def _weigh_one(term, numbers):
    """Return the term of a weigh with one pair."""
    if len(term[1]) != 1:
        return None
    return term[1][0][1]


def _range_weigh(term, numbers):
    """Return a range as a weigh of constants."""
    _, low, high = term
    return _even([("const", number) for number in range(low, high + 1)])


def _map_inside(term, numbers):
    """Return what a map of a constant, a discard or a weigh becomes."""
    _, operation, part = term
    if part[0] == "const":
        return ("const", apply(operation, part[1]))
    if part[0] == "discard":
        return part
    if part[0] == "weigh":
        return _weigh([(weight, ("map", operation, inner)) for weight, inner in part[1]])
    return None


def _tuple_const(term, numbers):
    """Return a tuple of constants as a constant."""
    if any([part[0] != "const" for part in term[1]]):
        return None
    return ("const", tuple([part[1] for part in term[1]]))


def _tuple_at(term, numbers):
    """Return what a tuple with a discard or a weigh at an index becomes."""
    parts = term[1]
    at = numbers[0]
    if not _has_place(parts, at):
        return None
    if parts[at][0] == "discard":
        return parts[at]
    if parts[at][0] != "weigh":
        return None
    return _weigh([(weight, ("tuple", (*parts[:at], part, *parts[at + 1:]))) for weight, part in parts[at][1]])


def _list_weigh(term, numbers):
    """Return a list as a weigh of tuples."""
    _, low, high, part = term
    return _even([("tuple", (part,) * length) for length in range(low, high + 1)])


def _orders(row):
    """Return the list of all orders of a tuple's elements, by the places of the elements."""
    if not row:
        return [()]
    found = []
    for at in range(len(row)):
        for rest in _orders(row[:at] + row[at + 1:]):
            found.append((row[at], *rest))
    return found


def _shuffle_weigh(term, numbers):
    """Return a shuffle as a weigh of constants."""
    # More elements have more orders than a weigh has pairs.
    if len(term[1]) > MOST_SHUFFLED:
        return None
    return _even([("const", order) for order in _orders(term[1])])


def _keep_inside(term, numbers):
    """Return what a keep of a constant, a discard or a weigh of such becomes."""
    _, test, tries, part = term
    if part[0] == "const":
        return part if holds(test, part[1]) else LOST
    if part[0] == "discard":
        return part
    if part[0] != "weigh" or any([inner[0] not in ("const", "discard") for _, inner in part[1]]):
        return None
    passing = []
    failing = 0
    lost = 0
    for weight, inner in part[1]:
        if inner[0] == "discard":
            lost += weight
        elif holds(test, inner[1]):
            passing.append((weight, inner))
        else:
            failing += weight
    factor, failed = tried(sum([weight for weight, _ in part[1]]), failing, tries)
    found = [(weight * factor, inner) for weight, inner in passing]
    if lost * factor + failed > 0:
        found.append((lost * factor + failed, LOST))
    return _weigh(found)


def _let_inside(term, numbers):
    """Return what a let of a constant, a discard or a weigh becomes."""
    _, name, first, last = term
    if first[0] == "const":
        return substitute(last, name, first[1])
    if first[0] == "discard":
        return first
    if first[0] == "weigh":
        return _weigh([(weight, ("let", name, inner, last)) for weight, inner in first[1]])
    return None


def _may_be_lost(term):
    """Return True if a term contains a keep, a discard or a self."""
    if term[0] in ("keep", "discard", "self"):
        return True
    for part in parts_of(term):
        if _may_be_lost(part):
            return True
    return False


def _let_unused(term, numbers):
    """Return the last part of a let whose variable it does not use."""
    _, name, first, last = term
    if uses(last, name) or _may_be_lost(first):
        return None
    return last


def _grow_unfold(term, numbers):
    """Return what a grow stands for."""
    # A variable that is free in it could be bound by a let around one of its selfs.
    if not is_closed(term):
        return None
    return unfolded(term)


# The head to which a rule applies, and how many numbers it takes.
RULES = {
    "pick-weigh": ("pick", 0),
    "weigh-flat": ("weigh", 1),
    "weigh-merge": ("weigh", 2),
    "weigh-swap": ("weigh", 2),
    "weigh-reduce": ("weigh", 1),
    "weigh-one": ("weigh", 0),
    "range-weigh": ("range", 0),
    "map-inside": ("map", 0),
    "tuple-const": ("tuple", 0),
    "tuple-at": ("tuple", 1),
    "list-weigh": ("list", 0),
    "shuffle-weigh": ("shuffle", 0),
    "keep-inside": ("keep", 0),
    "let-inside": ("let", 0),
    "let-unused": ("let", 0),
    "grow-unfold": ("grow", 0),
}
ACTIONS = {
    "pick-weigh": _pick_weigh,
    "weigh-flat": _weigh_flat,
    "weigh-merge": _weigh_merge,
    "weigh-swap": _weigh_swap,
    "weigh-reduce": _weigh_reduce,
    "weigh-one": _weigh_one,
    "range-weigh": _range_weigh,
    "map-inside": _map_inside,
    "tuple-const": _tuple_const,
    "tuple-at": _tuple_at,
    "list-weigh": _list_weigh,
    "shuffle-weigh": _shuffle_weigh,
    "keep-inside": _keep_inside,
    "let-inside": _let_inside,
    "let-unused": _let_unused,
    "grow-unfold": _grow_unfold,
}


def apply_rule(name, term, numbers):
    """Return the term that a rule makes of a term with these numbers, or None if it does not apply."""
    head, many = RULES[name]
    if term[0] != head or len(numbers) != many:
        return None
    action = ACTIONS[name]
    return action(term, numbers)
