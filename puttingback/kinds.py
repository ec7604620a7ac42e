"""Kinds, their things and their leaves."""

from puttingback.errors import InvalidKind, InvalidNumber, InvalidThing
from puttingback.values import is_below, is_integer, is_row, is_worded_row

MOST_DEPTH = 3
MOST_THINGS = 512


def is_kind(value):
    """Return whether any value is a kind."""
    return is_kind_within(value, MOST_DEPTH)


def is_thing(kind, value):
    """Return whether any value is a thing of a kind."""
    check_kind(kind)
    return is_thing_in(kind, value)


def count_of(kind):
    """Return how many things a kind has."""
    check_kind(kind)
    return many_things(kind)


def things_of(kind):
    """Return the list of all things of a kind, in their order."""
    check_kind(kind)
    return all_things(kind)


def number_of(kind, thing):
    """Return the number of a thing."""
    check_kind(kind)
    check_thing(kind, thing)
    return thing_number(kind, thing)


def thing_at(kind, number):
    """Return the thing with a number."""
    check_kind(kind)
    if not is_below(number, many_things(kind)):
        raise InvalidNumber("not the number of a thing of the kind")
    return thing_with(kind, number)


def leaves_of(kind):
    """Return the list of all leaves of a kind, in their order."""
    check_kind(kind)
    return all_leaves(kind)


def check_kind(kind):
    """Raise InvalidKind for what is no kind."""
    if not is_kind(kind):
        raise InvalidKind("not a kind")


def check_thing(kind, thing):
    """Raise InvalidThing for what is no thing of a kind."""
    if not is_thing_in(kind, thing):
        raise InvalidThing("not a thing of the kind")


def is_kind_within(value, depth):
    """Return whether any value is a kind of at most this depth."""
    if is_integer(value):
        return 0 <= value <= 12
    if depth == 0 or not is_worded_row(value, 1, 6):
        return False
    if not all([is_kind_within(pair[1], depth - 1) for pair in value]):
        return False
    return many_things(value) <= MOST_THINGS


def is_thing_in(kind, value):
    """Return whether any value is a thing of what surely is a kind."""
    if is_integer(kind):
        return is_below(value, kind)
    if not is_row(value, len(kind), len(kind)):
        return False
    return all([is_thing_in(pair[1], part) for pair, part in zip(kind, value)])


def many_things(kind):
    """Return how many things there are of what surely is built as a kind."""
    if is_integer(kind):
        return kind
    many = 1
    for pair in kind:
        many *= many_things(pair[1])
    return many


def all_things(kind):
    """Return the list of all things of what surely is a kind."""
    if is_integer(kind):
        return list(range(kind))
    rows = [()]
    for pair in kind:
        parts = all_things(pair[1])
        rows = [row + (part,) for row in rows for part in parts]
    return rows


def thing_number(kind, thing):
    """Return the number of what surely is a thing of a kind."""
    if is_integer(kind):
        return thing
    number = 0
    for pair, part in zip(kind, thing):
        number = number * many_things(pair[1]) + thing_number(pair[1], part)
    return number


def thing_with(kind, number):
    """Return the thing with what surely is the number of one."""
    if is_integer(kind):
        return number
    parts = []
    for pair in reversed(kind):
        number, part = divmod(number, many_things(pair[1]))
        parts.append(thing_with(pair[1], part))
    return tuple(parts[::-1])


def all_leaves(kind):
    """Return the list of all leaves of what surely is a kind."""
    if is_integer(kind):
        return [()]
    leaves = []
    for index, pair in enumerate(kind):
        leaves.extend([(index,) + leaf for leaf in all_leaves(pair[1])])
    return leaves


def leaf_limit(kind, value):
    """Return the integer in a kind to which any value, as a leaf, leads, or None if it is no leaf."""
    if not isinstance(value, tuple):
        return None
    for index in value:
        if is_integer(kind) or not is_below(index, len(kind)):
            return None
        kind = kind[index][1]
    return kind if is_integer(kind) else None


def at_leaf(thing, leaf):
    """Return the integer that stands in a thing at a leaf."""
    for index in leaf:
        thing = thing[index]
    return thing
