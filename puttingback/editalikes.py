"""Machines that leave the same things behind all rows, and lots by which this is told."""

from puttingback.editmachines import (check_machine, check_serving, is_closed, is_triple, moves_of, told_row,
                                      triples_ahead)
from puttingback.errors import UnlikeSides
from puttingback.reaching import FAILED, rows_ahead
from puttingback.values import is_ascending, is_row

# The quadruple at which two machines begin.
START_BOTH = (0, 0, 0, 0)


def parting_row(one, other):
    """Return the least row that comes to unlike places by two machines, or None."""
    moves, other_moves = check_both(one, other)
    ahead = rows_ahead(START_BOTH, lambda places: both_moves(moves, other_moves, places))
    return told_row(ahead, FAILED) if FAILED in ahead else None


def alike_lot(one, other):
    """Return any alike lot of two machines, or None."""
    moves, other_moves = check_both(one, other)
    ahead = rows_ahead(START_BOTH, lambda places: both_moves(moves, other_moves, places))
    return None if FAILED in ahead else tuple(sorted(ahead))


def is_alike_lot(one, other, value):
    """Return whether any value is an alike lot of two machines."""
    moves, other_moves = check_both(one, other)
    if not isinstance(value, tuple) or not all([is_quadruple(one, other, places) for places in value]):
        return False
    if not is_ascending(value) or START_BOTH not in value:
        return False
    return is_closed(value, lambda places: both_moves(moves, other_moves, places))


def check_both(one, other):
    """Return the moves of two machines that serve and have the same sides, or raise what tells that they do not."""
    check_machine(one)
    check_machine(other)
    moves, other_moves = moves_of(one), moves_of(other)
    check_serving(triples_ahead(moves))
    check_serving(triples_ahead(other_moves))
    if one[:2] != other[:2]:
        raise UnlikeSides("not the same sides")
    return (moves, other_moves)


def is_quadruple(one, other, value):
    """Return whether any value is a quadruple of two machines with the same sides."""
    if not is_row(value, 4, 4):
        return False
    return is_triple(one, (value[0], value[1], value[3])) and is_triple(other, (value[0], value[2], value[3]))


def both_moves(moves, other_moves, places):
    """Return the list of the letters let at a quadruple, with that to which each comes by two machines.

    FAILED stands where one of them fails, or where they come to unlike places.
    """
    left, standing, other_standing, right = places
    own, others = moves[(left, standing, right)], other_moves[(left, other_standing, right)]
    come = []
    # Both let the same letters at the same places.
    for (letter, came), (_, other_came) in zip(own, others):
        if FAILED in (came, other_came) or came[0] != other_came[0] or came[2] != other_came[2]:
            come.append((letter, FAILED))
        else:
            come.append((letter, (came[0], came[1], other_came[1], came[2])))
    return come
