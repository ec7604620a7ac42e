"""What machines that serve keep beside the things of their sides, and letters that can be exchanged."""

from puttingback.editmachines import (MOST_LETTERS, check_letter, check_machine, check_serving, moves_of, told_row,
                                      triples_ahead)
from puttingback.errors import TooMany
from puttingback.reaching import row_to


def forgets_by(machine):
    """Return the ascending list of what comes of letters at places, if a machine forgets, or None."""
    check_machine(machine)
    moves = moves_of(machine)
    ahead = triples_ahead(moves)
    check_serving(ahead)
    behind = {}
    for triple in ahead:
        for letter, came in moves[triple]:
            places = places_of(came)
            # If two triples with the same places part at all, so do some by one letter.
            if behind.setdefault(places_of(triple) + (letter,), places) != places:
                return None
    return sorted([row + behind[row] for row in behind])


def kept_rows(machine):
    """Return any two rows that come to the same places, with one behind both that comes to unlike ones, or None."""
    check_machine(machine)
    moves = moves_of(machine)
    ahead = triples_ahead(moves)
    check_serving(ahead)
    steps = parting_steps(moves, list(ahead))
    if not steps:
        return None
    lengths = row_lengths(ahead)
    # Of all there are, the rows whose longest one is shortest are told, as none may be too long.
    longest, one, other = min([(max(lengths[pair[0]], lengths[pair[1]], steps[pair][0]), pair[0], pair[1])
                               for pair in steps])
    if longest > MOST_LETTERS:
        raise TooMany(MOST_LETTERS)
    return (row_to(ahead, one), row_to(ahead, other), parting_by(moves, steps, (one, other)))


def exchange_row(machine, letter, second):
    """Return the least row behind which two letters cannot be exchanged, or None."""
    check_machine(machine)
    check_letter(machine, letter)
    check_letter(machine, second)
    moves = moves_of(machine)
    ahead = triples_ahead(moves)
    check_serving(ahead)
    steps = parting_steps(moves, list(ahead))
    for triple in ahead:
        one, other = come_to(moves, triple, (letter, second)), come_to(moves, triple, (second, letter))
        if do_part(steps, one, other):
            return told_row(ahead, triple)
    return None


def places_of(triple):
    """Return the pair of the places of a triple."""
    return (triple[0], triple[2])


def alike_triples(triples):
    """Return the list of all pairs of triples with the same places, the lesser first."""
    lots = {}
    for triple in sorted(triples):
        lots.setdefault(places_of(triple), []).append(triple)
    return [(one, other) for lot in lots.values() for at, one in enumerate(lot) for other in lot[at + 1:]]


def pair_moves(moves, pair):
    """Return the list of the letters let at two triples with the same places, with what comes, the lesser one first."""
    come = []
    for (letter, one), (_, other) in zip(moves[pair[0]], moves[pair[1]]):
        come.append((letter, (one, other) if one < other else (other, one)))
    return come


def parting_steps(moves, triples):
    """Return the dict, for each two of some triples that have the same places and part, of how this can be seen.

    It has the length of the shortest rows by which they part, and the first letter of one of these.
    """
    steps, before = {}, {}
    for pair in alike_triples(triples):
        for letter, come in pair_moves(moves, pair):
            if places_of(come[0]) != places_of(come[1]):
                steps.setdefault(pair, (1, letter))
            elif come[0] != come[1]:
                before.setdefault(come, []).append((pair, letter))
    level = list(steps)
    while level:
        deeper = []
        for come in level:
            for pair, letter in before.get(come, []):
                if pair not in steps:
                    steps[pair] = (steps[come][0] + 1, letter)
                    deeper.append(pair)
        level = deeper
    return steps


def parting_by(moves, steps, pair):
    """Return a shortest row by which two triples that part, with the same places, come to unlike ones."""
    row = []
    while pair in steps:
        letter = steps[pair][1]
        row.append(letter)
        pair = dict(pair_moves(moves, pair))[letter]
    return tuple(row)


def row_lengths(ahead):
    """Return the dict of the lengths of the least rows to all triples to which rows come."""
    lengths = {}
    for triple, step in ahead.items():
        lengths[triple] = 0 if step is None else lengths[step[0]] + 1
    return lengths


def come_to(moves, triple, row):
    """Return the triple to which a row comes from one, or None if it is not let there."""
    for letter in row:
        if triple is not None:
            triple = dict(moves[triple]).get(letter)
    return triple


def do_part(steps, one, other):
    """Return whether two triples part, or just one of both is None."""
    if one is None or other is None:
        return one != other
    if places_of(one) != places_of(other):
        return True
    return (one, other) in steps or (other, one) in steps
