"""Roads of puts through several terms, the things to which they come, and lots of things that none of them leaves."""

from puttingback.errors import TooMany
from puttingback.kinds import all_things, check_kind, check_thing, many_things, thing_number
from puttingback.lives import check_terms
from puttingback.reaching import row_to, rows_ahead
from puttingback.tables import all_puts
from puttingback.terms import worths_kind
from puttingback.values import is_ascending, is_numbers_row

MOST_DEEDS = 4096


def things_come(kind, terms, thing):
    """Return the ascending list of the numbers of all things to which roads from a thing come."""
    check_kind(kind)
    check_terms(kind, terms)
    check_thing(kind, thing)
    check_few_deeds(kind, terms)
    return sorted(roads_ahead(deed_moves(kind, terms), thing_number(kind, thing)))


def road_to(kind, terms, thing, target):
    """Return the first road that comes from a thing to another one, or None."""
    check_kind(kind)
    check_terms(kind, terms)
    check_thing(kind, thing)
    check_thing(kind, target)
    check_few_deeds(kind, terms)
    ahead = roads_ahead(deed_moves(kind, terms), thing_number(kind, thing))
    number = thing_number(kind, target)
    return told_road(kind, terms, ahead, number) if number in ahead else None


def is_closed_lot(kind, terms, value):
    """Return whether any value is a closed lot."""
    check_kind(kind)
    check_terms(kind, terms)
    check_few_deeds(kind, terms)
    many = many_things(kind)
    if not is_numbers_row(value, 0, many, many) or not is_ascending(value):
        return False
    known = {number: True for number in value}
    moves = deed_moves(kind, terms)
    return all([end in known for number in value for _, end in moves[number]])


def check_few_deeds(kind, terms):
    """Raise TooMany if there are too many pairs of a thing and of a deed."""
    if many_things(kind) * sum([many_things(worths_kind(kind, term)) for term in terms]) > MOST_DEEDS:
        raise TooMany(MOST_DEEDS)


def deed_moves(kind, terms):
    """Return the list, for each thing, of the list of all deeds that are not refused there, with what each comes to.

    A deed is told by the index of its term and the number of its worth, and they stand in this order.
    """
    moves = [[] for _ in range(many_things(kind))]
    for index, term in enumerate(terms):
        for number, ends in enumerate(all_puts(kind, term)):
            moves[number].extend([((index, worth), end) for worth, end in enumerate(ends) if end is not None])
    return moves


def roads_ahead(moves, number):
    """Return what rows_ahead does of the numbers of things, from one on."""
    return rows_ahead(number, lambda other: moves[other])


def told_road(kind, terms, ahead, number):
    """Return the first road to what surely is the number of a thing to which one comes."""
    worths = [all_things(worths_kind(kind, term)) for term in terms]
    return tuple([(index, worths[index][worth]) for index, worth in row_to(ahead, number)])
