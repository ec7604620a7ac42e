"""Letters that serving machines can take back, by letters of the same side."""

from puttingback.editforgets import alike_triples, parting_steps
from puttingback.editmachines import check_machine, check_serving, moves_of, told_row, triples_ahead
from puttingback.errors import InvalidSide
from puttingback.values import is_below


def longest_way(machine, side):
    """Return the greatest way of a letter of a side at a triple (0 if none is let), or None if one has none."""
    ahead, moves = check_taking(machine, side)
    ways = [way for _, _, way in letter_ways(moves, list(ahead), side)]
    return None if None in ways else max(ways + [0])


def lost_letter(machine, side):
    """Return any row and any letter of a side, let behind it, that is not taken back, or None."""
    ahead, moves = check_taking(machine, side)
    # The triples with the shortest rows stand first, as no row that is told may be too long.
    for triple, letter, way in letter_ways(moves, list(ahead), side):
        if way is None:
            return (told_row(ahead, triple), letter)
    return None


def check_taking(machine, side):
    """Return the rows ahead of the triples of a machine that serves, and its moves, or raise what a caller is told."""
    check_machine(machine)
    if not is_below(side, 2):
        raise InvalidSide("neither 0 nor 1")
    moves = moves_of(machine)
    ahead = triples_ahead(moves)
    check_serving(ahead)
    return (ahead, moves)


def letter_ways(moves, triples, side):
    """Return the list of all letters of a side at some triples, each with its way, None if it is not taken back."""
    first = first_alike(moves, triples)
    before = classes_before(moves, first, side)
    ways = {}
    for triple in triples:
        # Triples that do not part let the same letters, and these have the same ways.
        if first[triple] not in ways:
            lengths = lengths_to(before, first[triple])
            own = [(letter, came) for letter, came in moves[triple] if letter[0] == side]
            ways[first[triple]] = [(letter, lengths.get(first[came])) for letter, came in own]
    return [(triple, letter, way) for triple in triples for letter, way in ways[first[triple]]]


def first_alike(moves, triples):
    """Return the dict, for each of some triples, of the least one from which it does not part."""
    steps = parting_steps(moves, triples)
    first = {triple: triple for triple in triples}
    # Not to part is the same for all triples of a class, and the pairs with its least triple stand ahead of the others.
    for one, other in alike_triples(triples):
        if (one, other) not in steps:
            first[other] = first[one]
    return first


def classes_before(moves, first, side):
    """Return the dict, for first triples of classes, of the list of those from which letters of a side lead there."""
    before = {}
    for triple in first:
        for letter, came in moves[triple]:
            if letter[0] == side:
                before.setdefault(first[came], []).append(first[triple])
    return before


def lengths_to(before, end):
    """Return the dict of how few letters lead to an end, for all from which some do."""
    lengths = {end: 0}
    level = [end]
    while level:
        deeper = []
        for came in level:
            for place in before.get(came, []):
                if place not in lengths:
                    lengths[place] = lengths[came] + 1
                    deeper.append(place)
        level = deeper
    return lengths
