"""Puts that turn back: what was shown, put back, comes to the first thing again."""

from puttingback.kinds import all_things, check_kind, many_things
from puttingback.tables import all_puts, check_few_puts, showing_of
from puttingback.terms import check_term, worths_kind


def first_unturned(kind, term):
    """Return the first thing, and the first worth, whose put is not refused and does not turn back, or None."""
    check_kind(kind)
    check_term(kind, term)
    check_few_puts(kind, term)
    found = unturned_numbers(showing_of(kind, term), all_puts(kind, term))
    if found is None:
        return None
    return (all_things(kind)[found[0]], all_things(worths_kind(kind, term))[found[1]])


def turned_shares(kind, term):
    """Return the row of how many things show each worth, if all puts turn back and none is refused, or None."""
    check_kind(kind)
    check_term(kind, term)
    check_few_puts(kind, term)
    row, puts = showing_of(kind, term), all_puts(kind, term)
    if any([None in ends for ends in puts]) or unturned_numbers(row, puts) is not None:
        return None
    return tuple([row.count(worth) for worth in range(many_things(worths_kind(kind, term)))])


def unturned_numbers(row, puts):
    """Return the numbers of the first thing, and of the first worth, whose put does not turn back, or None."""
    for thing, ends in enumerate(puts):
        for worth, end in enumerate(ends):
            if end is not None and puts[end][row[thing]] != thing:
                return (thing, worth)
    return None
