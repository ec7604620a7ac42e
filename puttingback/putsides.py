"""Sides of two listings: ways of both that leave what the other one shows."""

from math import factorial

from puttingback.errors import InvalidManner, InvalidPair
from puttingback.putrules import check_listing
from puttingback.values import power

MANNERS = ("free", "steady", "woven")


def count_sides(listing, other, manner):
    """Return how many pairs of sides of two listings there are, of a manner."""
    check_listing(listing)
    check_listing(other)
    if manner not in MANNERS:
        raise InvalidManner("not a manner of sides")
    check_pair(listing, other)
    if not listing[1]:
        return 1
    sizes = cell_sizes(listing, other)
    if manner == "free":
        return count_free(listing, other, sizes)
    if min(list(sizes.values())) != max(list(sizes.values())):
        return 0
    # Each way pairs the things of the cells off, which all have as many of them.
    cells = len(sizes)
    pairings = cells - 1 if manner == "woven" else 2 * cells - listing[0] - other[0]
    return power(factorial(sizes[(0, 0)]), pairings)


def lacking_pair(listing, other):
    """Return any pair of worths of two listings that is shown of no thing, or None."""
    check_listing(listing)
    check_listing(other)
    check_pair(listing, other)
    if not listing[1]:
        return None
    sizes = cell_sizes(listing, other)
    for pair, size in sizes.items():
        if size == 0:
            return pair
    return None


def check_pair(listing, other):
    """Raise InvalidPair if two listings have not as many things."""
    if len(listing[1]) != len(other[1]):
        raise InvalidPair("not as many things")


def cell_sizes(listing, other):
    """Return the dict of how many things show each pair of worths of two listings."""
    sizes = {(one, two): 0 for one in range(listing[0]) for two in range(other[0])}
    for pair in zip(listing[1], other[1]):
        sizes[pair] += 1
    return sizes


def count_free(listing, other, sizes):
    """Return how many pairs of sides there are if puts need not be steady."""
    count = 1
    for own, beside in zip(listing[1], other[1]):
        for worth in range(listing[0]):
            count *= 1 if worth == own else sizes[(worth, beside)]
        for worth in range(other[0]):
            count *= 1 if worth == beside else sizes[(own, worth)]
    return count
