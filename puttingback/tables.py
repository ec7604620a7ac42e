"""What terms show of all things, and what all puts come to, told by numbers."""

from puttingback.errors import TooMany
from puttingback.kinds import all_things, check_kind, many_things
from puttingback.showing import plan_of, plan_puts, plan_shows
from puttingback.terms import check_term, worths_kind

MOST_PUTS = 4096


def showing_of(kind, term):
    """Return the row with the number of what is shown of each thing."""
    check_kind(kind)
    check_term(kind, term)
    numbers = numbers_of(worths_kind(kind, term))
    plan = plan_of(kind, term)
    return tuple([numbers[plan_shows(plan, thing)] for thing in all_things(kind)])


def puts_of(kind, term):
    """Return the row, for each thing, of the row, for each worth, of the number of what its put comes to."""
    check_kind(kind)
    check_term(kind, term)
    check_few_puts(kind, term)
    return all_puts(kind, term)


def check_few_puts(kind, term):
    """Raise TooMany if there are too many pairs of a thing and of a worth of a term."""
    if many_things(kind) * many_things(worths_kind(kind, term)) > MOST_PUTS:
        raise TooMany(MOST_PUTS)


def all_puts(kind, term):
    """Return the row, for each thing, of the row, for each worth, of the number of what its put comes to, or None."""
    numbers = numbers_of(kind)
    worths = all_things(worths_kind(kind, term))
    plan = plan_of(kind, term)
    rows = []
    for thing in all_things(kind):
        ends = [plan_puts(plan, thing, worth) for worth in worths]
        rows.append(tuple([numbers[end[1]] if end[0] == "thing" else None for end in ends]))
    return tuple(rows)


def numbers_of(kind):
    """Return the dict of the numbers of all things."""
    return {thing: number for number, thing in enumerate(all_things(kind))}
