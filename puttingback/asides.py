"""Showings, and what is kept aside of their things so that puts are let."""

from puttingback.errors import InvalidAside, InvalidShowing
from puttingback.values import is_below, is_numbers_row, is_row, tidy_row

MOST_WORTHS = 12
MOST_THINGS = 40


def is_showing(value):
    """Return whether any value is a showing."""
    return is_showing_within(value, MOST_WORTHS, MOST_THINGS)


def tidy_aside(showing, aside):
    """Return the tidy aside with the same lots as an aside."""
    check_showing(showing)
    check_aside(showing, aside)
    return tidy_row(aside)


def puts_kept(showing, aside):
    """Return the puts of a clear aside, or None if it is not clear."""
    check_showing(showing)
    check_aside(showing, aside)
    return clear_puts(showing, aside) if is_clear(showing, aside) else None


def serves(showing, aside):
    """Return whether an aside serves."""
    check_showing(showing)
    check_aside(showing, aside)
    return first_serving_clash(showing, aside) is None


def serving_clash(showing, aside):
    """Return any serving clash of an aside, or None."""
    check_showing(showing)
    check_aside(showing, aside)
    return first_serving_clash(showing, aside)


def is_serving_clash(showing, aside, value):
    """Return whether any value is a serving clash of an aside."""
    check_showing(showing)
    check_aside(showing, aside)
    many, row = showing
    if not is_row(value, 3, 3) or not is_below(value[1], len(row)):
        return False
    if value[0] == "alike":
        if not is_below(value[2], len(row)) or value[1] >= value[2]:
            return False
        return row[value[1]] == row[value[2]] and aside[value[1]] == aside[value[2]]
    if value[0] != "lack" or not is_below(value[2], many):
        return False
    return (value[2], aside[value[1]]) not in first_things(showing, aside)


def put_alike(showing, aside, beside):
    """Return whether two asides are both clear and put alike."""
    check_showing(showing)
    check_aside(showing, aside)
    check_aside(showing, beside)
    if not is_clear(showing, aside) or not is_clear(showing, beside):
        return False
    return clear_puts(showing, aside) == clear_puts(showing, beside)


def parting_put(showing, aside, beside):
    """Return the first thing, and the first worth, by which two clear asides put unlike, or None."""
    check_showing(showing)
    check_aside(showing, aside)
    check_aside(showing, beside)
    if not is_clear(showing, aside) or not is_clear(showing, beside):
        raise InvalidAside("not a clear aside")
    other_puts = clear_puts(showing, beside)
    for thing, row in enumerate(clear_puts(showing, aside)):
        for worth, end in enumerate(row):
            if end != other_puts[thing][worth]:
                return (thing, worth)
    return None


def is_showing_within(value, most_worths, most_things):
    """Return whether any value is a showing of at most so many worths and things."""
    if not is_row(value, 2, 2) or not is_below(value[0], most_worths + 1):
        return False
    return is_numbers_row(value[1], 0, most_things, value[0])


def check_showing(showing):
    """Raise InvalidShowing for what is no showing."""
    if not is_showing(showing):
        raise InvalidShowing("not a showing")


def check_aside(showing, aside):
    """Raise InvalidAside for what is no aside of the things of a showing."""
    many = len(showing[1])
    if not is_numbers_row(aside, many, many, MOST_THINGS):
        raise InvalidAside("not an aside of the things of the showing")


def first_things(showing, aside):
    """Return the dict of the first thing with each pair of a worth and of a side that some thing has."""
    found = {}
    for thing, pair in enumerate(zip(showing[1], aside)):
        found.setdefault(pair, thing)
    return found


def is_clear(showing, aside):
    """Return whether an aside is clear."""
    return len(first_things(showing, aside)) == len(aside)


def clear_puts(showing, aside):
    """Return the puts of what surely is a clear aside."""
    found = first_things(showing, aside)
    return tuple([tuple([found.get((worth, side)) for worth in range(showing[0])]) for side in aside])


def first_serving_clash(showing, aside):
    """Return the first serving clash found of an aside, or None."""
    found = first_things(showing, aside)
    for thing, pair in enumerate(zip(showing[1], aside)):
        if found[pair] < thing:
            return ("alike", found[pair], thing)
        for worth in range(showing[0]):
            if (worth, pair[1]) not in found:
                return ("lack", thing, worth)
    return None
