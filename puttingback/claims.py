"""Claims of all things to which roads come, and things from which none comes back."""

from puttingback.errors import InvalidClaim
from puttingback.kinds import all_things, at_leaf, check_kind, check_thing, leaf_limit, thing_number
from puttingback.lives import check_terms
from puttingback.roads import check_few_deeds, deed_moves, roads_ahead, told_road
from puttingback.values import is_ascending, is_numbers_row, is_row

MOST_LEAVES = 6


def is_claim(kind, value):
    """Return whether any value is a claim."""
    check_kind(kind)
    return is_claim_over(kind, value)


def claim_paper(kind, terms, thing, claim):
    """Return the least closed lot with a thing, if a claim holds there, or the first road to where it does not."""
    check_kind(kind)
    check_terms(kind, terms)
    check_thing(kind, thing)
    if not is_claim_over(kind, claim):
        raise InvalidClaim("not a claim over the kind")
    check_few_deeds(kind, terms)
    ahead = roads_ahead(deed_moves(kind, terms), thing_number(kind, thing))
    things = all_things(kind)
    for number in ahead:
        if not holds_at(claim, things[number]):
            return ("road", told_road(kind, terms, ahead, number))
    return ("lot", tuple(sorted(ahead)))


def stranded(kind, terms, thing):
    """Return the first road to a thing from which none comes back, and the least closed lot with that one, or None."""
    check_kind(kind)
    check_terms(kind, terms)
    check_thing(kind, thing)
    check_few_deeds(kind, terms)
    moves = deed_moves(kind, terms)
    start = thing_number(kind, thing)
    ahead = roads_ahead(moves, start)
    back = numbers_back(moves, start)
    for number in ahead:
        if number not in back:
            return (told_road(kind, terms, ahead, number), tuple(sorted(roads_ahead(moves, number))))
    return None


def is_claim_over(kind, value):
    """Return whether any value is a claim over what surely is a kind."""
    if not is_row(value, 1, MOST_LEAVES) or not all([is_told_leaf(kind, pair) for pair in value]):
        return False
    return is_ascending([pair[0] for pair in value])


def is_told_leaf(kind, value):
    """Return whether any value is a pair of a leaf and of an ascending row of integers that can stand there."""
    if not is_row(value, 2, 2):
        return False
    limit = leaf_limit(kind, value[0])
    return limit is not None and is_numbers_row(value[1], 0, limit, limit) and is_ascending(value[1])


def holds_at(claim, thing):
    """Return whether a claim holds at a thing."""
    return all([at_leaf(thing, leaf) in numbers for leaf, numbers in claim])


def numbers_back(moves, end):
    """Return what rows_ahead does of the numbers of things, from one on, by going deeds back."""
    before = [[] for _ in moves]
    for number, ends in enumerate(moves):
        for deed, came in ends:
            before[came].append((deed, number))
    return roads_ahead(before, end)
