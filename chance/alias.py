"""Alias tables: an index by its weight, with one column and one number.

A table is a list of columns. A column is a triple (limit, own, other): numbers
below the limit give own, and all others give other.
"""

from chance.errors import Invalid


def build(weights):
    """Return an alias table for a list of weights."""
    whole = sum(weights)
    if whole <= 0 or min(weights) < 0:
        raise Invalid("weights")
    # What is left of each index to be given; a column has room for the whole.
    left = [weight * len(weights) for weight in weights]
    scarce = [at for at in range(len(left)) if left[at] < whole]
    ample = [at for at in range(len(left)) if left[at] >= whole]
    columns = [(whole, at, at) for at in range(len(left))]
    # While an index does not fill a column, another one has more than a column's.
    while scarce:
        own = scarce.pop()
        other = ample.pop()
        columns[own] = (left[own], own, other)
        left[other] -= whole - left[own]
        if left[other] < whole:
            scarce.append(other)
        else:
            ample.append(other)
    return columns


def choose(columns, column, number):
    """Return the index that a column, told by its index, and a number give."""
    limit, own, other = columns[column]
    return own if number < limit else other


def shares(columns, whole):
    """Return how many pairs of a column and a number below the whole give each index."""
    found = [0] * len(columns)
    for limit, own, other in columns:
        found[own] += limit
        found[other] += whole - limit
    return found


def is_table(columns, weights):
    """Return True if a list of triples of integers is an alias table for these weights."""
    whole = sum(weights)
    many = len(weights)
    if len(columns) != many or whole <= 0:
        return False
    for limit, own, other in columns:
        if not (0 <= limit <= whole and 0 <= own < many and 0 <= other < many):
            return False
    return shares(columns, whole) == [weight * many for weight in weights]
