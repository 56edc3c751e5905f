"""Chances: the exact distribution of the values of a term.

Like a run, this does not rewrite terms but keeps a scope beside each of them.
Chances are counted as whole numbers of equally likely cases; only what is
returned is divided.
"""

from math import gcd, lcm

from chance.checks import holds, tried
from chance.errors import Impossible, TooLarge
from chance.ratios import ZERO, ratio
from chance.terms import Scope, checked, grown, meant_by, named
from chance.values import apply, ranks_of, sum_of

MOST_WORK = 5000
MOST_AROUND = 100
MOST_VALUES = 500


class Counts:
    """In how many equally likely cases each value comes out, and in how many the run is discarded.

    The table leads from the ranks of each value to the pair of the value and its
    cases, which are never zero. It is made of triples of ranks, value and cases,
    in which a value may stand more than once.
    """

    def __init__(self, rows, lost):
        table = {}
        for ranks, value, cases in rows:
            known = table.get(ranks)
            table[ranks] = (value, cases if known is None else known[1] + cases)
        # Without this, the numbers of cases grow far beyond what the chances need.
        common = lost
        for _, cases in table.values():
            common = gcd(common, cases)
        self.table = {ranks: (value, cases // common) for ranks, (value, cases) in table.items()}
        self.lost = lost // common
        self.whole = self.lost + sum([cases for _, cases in self.table.values()])

    def triples(self):
        """Return the list of the triples of ranks, value and cases, in ascending order."""
        return [(ranks, self.table[ranks][0], self.table[ranks][1]) for ranks in sorted(self.table)]


class Work:
    """How many terms were evaluated so far."""

    def __init__(self):
        self._done = 0

    def evaluate(self, around):
        """Count an evaluation inside so many others."""
        self._done += 1
        if self._done > MOST_WORK:
            raise TooLarge("work")
        if around == MOST_AROUND:
            raise TooLarge("depth")


class Spread:
    """A distribution: the chance of each value, and the lost chance."""

    def __init__(self, counts):
        self.lost = ratio(counts.lost, counts.whole)
        self._table = {}
        for ranks, value, cases in counts.triples():
            self._table[ranks] = (value, ratio(cases, counts.whole))

    def of(self, value):
        """Return the chance of a value."""
        found = self._table.get(ranks_of(value))
        return ZERO if found is None else found[1]

    def rows(self):
        """Return the list of pairs of a value and its chance, in ascending order."""
        return list(self._table.values())


def _always_lost():
    """Return the counts of a run that is always discarded."""
    return Counts([], 1)


def _even(values):
    """Return the counts of values that are equally likely."""
    return Counts([(ranks_of(value), value, 1) for value in values], 0)


def _mixed(shares):
    """Return the counts of a choice by weight; the shares are pairs of a weight and the counts behind it."""
    shared = 1
    for _, counts in shares:
        shared = lcm(shared, counts.whole)
    rows = []
    lost = 0
    for weight, counts in shares:
        factor = weight * (shared // counts.whole)
        lost += factor * counts.lost
        for ranks, (value, cases) in counts.table.items():
            rows.append((ranks, value, factor * cases))
    return Counts(rows, lost)


def _count_const(term, scope, work, around):
    """Return the counts of a const."""
    return _even([term[1]])


def _count_discard(term, scope, work, around):
    """Return the counts of a discard."""
    return _always_lost()


def _count_range(term, scope, work, around):
    """Return the counts of a range."""
    _, low, high = term
    return _even(list(range(low, high + 1)))


def _count_pick(term, scope, work, around):
    """Return the counts of a pick."""
    return _mixed([(1, _counts(part, scope, work, around)) for part in term[1]])


def _count_weigh(term, scope, work, around):
    """Return the counts of a weigh."""
    return _mixed([(weight, _counts(part, scope, work, around)) for weight, part in term[1]])


def _longer(rows, part):
    """Return the rows of tuples with one element more, which comes from the counts of a part.

    The ranks in these rows are those of the elements only: the rank of the
    tuple itself is known when it is whole.
    """
    found = []
    for ranks, values, cases in rows:
        for further, (value, many) in part.table.items():
            found.append((ranks + further, (*values, value), cases * many))
    return found


def _whole_tuples(rows, factor):
    """Return the rows of tuples that get no further elements, with their cases times a factor."""
    return [((1, len(values)) + ranks, values, cases * factor) for ranks, values, cases in rows]


def _count_tuple(term, scope, work, around):
    """Return the counts of a tuple."""
    rows = [((), (), 1)]
    whole = 1
    for part in term[1]:
        counts = _counts(part, scope, work, around)
        if not counts.table:
            return _always_lost()
        if len(rows) * len(counts.table) > MOST_VALUES:
            raise TooLarge("values")
        rows = _longer(rows, counts)
        whole = whole * counts.whole
    return Counts(_whole_tuples(rows, 1), whole - sum([cases for _, _, cases in rows]))


def _count_list(term, scope, work, around):
    """Return the counts of a list."""
    _, low, high, part = term
    counts = _counts(part, scope, work, around)
    lengths = [[((), (), 1)]]
    for _ in range(high):
        if len(lengths[-1]) * len(counts.table) > MOST_VALUES:
            raise TooLarge("values")
        lengths.append(_longer(lengths[-1], counts))
    rows = []
    factor = 1
    for length in range(high, low - 1, -1):
        rows.extend(_whole_tuples(lengths[length], factor))
        factor = factor * counts.whole
    # Each length has as many cases as the greatest one.
    most = 1
    for _ in range(high):
        most = most * counts.whole
    return Counts(rows, most * (high - low + 1) - sum([cases for _, _, cases in rows]))


def _count_shuffle(term, scope, work, around):
    """Return the counts of a shuffle."""
    orders = [()]
    for element in term[1]:
        longer = []
        for order in orders:
            for at in range(len(order) + 1):
                longer.append((*order[:at], element, *order[at:]))
        orders = longer
    return _even(orders)


def _count_map(term, scope, work, around):
    """Return the counts of a map."""
    _, operation, part = term
    counts = _counts(part, scope, work, around)
    changed = [(apply(operation, value), cases) for value, cases in counts.table.values()]
    return Counts([(ranks_of(value), value, cases) for value, cases in changed], counts.lost)


def _passing(test, counts):
    """Return the triples of the values that pass the test."""
    return [row for row in counts.triples() if holds(test, row[1])]


def _count_keep(term, scope, work, around):
    """Return the counts of a keep."""
    _, test, tries, part = term
    counts = _counts(part, scope, work, around)
    rows = _passing(test, counts)
    failing = counts.whole - counts.lost - sum([cases for _, _, cases in rows])
    factor, failed = tried(counts.whole, failing, tries)
    return Counts([(ranks, value, cases * factor) for ranks, value, cases in rows], counts.lost * factor + failed)


def _count_let(term, scope, work, around):
    """Return the counts of a let."""
    _, name, first, last = term
    counts = _counts(first, scope, work, around)
    shares = [(counts.lost, _always_lost())]
    for _, value, cases in counts.triples():
        shares.append((cases, _counts(last, named(scope, name, value), work, around)))
    return _mixed(shares)


def _count_grow(term, scope, work, around):
    """Return the counts of a grow."""
    _, size, first, last = term
    if size == 0:
        return _counts(first, scope, work, around)
    return _counts(last, grown(scope, term), work, around)


ACTIONS = {
    "const": _count_const,
    "discard": _count_discard,
    "range": _count_range,
    "pick": _count_pick,
    "weigh": _count_weigh,
    "tuple": _count_tuple,
    "list": _count_list,
    "shuffle": _count_shuffle,
    "map": _count_map,
    "keep": _count_keep,
    "let": _count_let,
    "grow": _count_grow,
}


def _counts(term, scope, work, around):
    """Return the counts of a term that is evaluated inside so many others."""
    meant, inner = meant_by(term, scope)
    work.evaluate(around)
    action = ACTIONS[meant[0]]
    found = action(meant, inner, work, around + 1)
    if len(found.table) > MOST_VALUES:
        raise TooLarge("values")
    return found


def _all_counts(term):
    """Return the counts of a closed term."""
    return _counts(checked(term), Scope({}, None), Work(), 0)


def spread(term):
    """Return the distribution of a term."""
    return Spread(_all_counts(term))


def chance(term, test):
    """Return the chance that the run of a term is not discarded and its value passes the test."""
    counts = _all_counts(term)
    return ratio(sum([cases for _, _, cases in _passing(test, counts)]), counts.whole)


def conditional(term, test):
    """Return the distribution of the values that pass the test."""
    rows = _passing(test, _all_counts(term))
    if not rows:
        raise Impossible("test")
    return Spread(Counts(rows, 0))


def mean(term):
    """Return the mean of the sums of the values of a term that are not discarded."""
    rows = _all_counts(term).triples()
    if not rows:
        raise Impossible("value")
    return ratio(sum([sum_of(value) * cases for _, value, cases in rows]), sum([cases for _, _, cases in rows]))
