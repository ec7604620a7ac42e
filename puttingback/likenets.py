"""Turning nets that are one but for new numbers of things, and ways that part things of two nets."""

from puttingback.errors import InvalidPlace, Unlike
from puttingback.kinds import many_things
from puttingback.nets import check_place, check_turning, place_moves
from puttingback.reaching import row_to, rows_ahead
from puttingback.turnings import all_classes


def new_numbers(net, net_two):
    """Return any row of new numbers for the things of all versions by which one net becomes another one, or None."""
    check_turning(net)
    check_turning(net_two)
    check_like(net, net_two)
    moves, moves_two = place_moves(net), place_moves(net_two)
    left = all_classes(net_two)
    new = {}
    for lot in all_classes(net):
        found = paired_lot(moves, moves_two, lot, left)
        if found is None:
            return None
        paired, other = found
        for place in lot:
            new[place] = paired[place]
        left = [lot_two for lot_two in left if lot_two != other]
    return tuple([tuple([new[(version, number)][1] for number in range(many_things(kind))])
                  for version, kind in enumerate(net[0])])


def way_parting(net, net_two, place, place_two):
    """Return any way that leads just one of the things of two places, of two nets, back to itself, or None."""
    check_turning(net)
    check_turning(net_two)
    check_place(net, place)
    check_place(net_two, place_two)
    if place[0] != place_two[0]:
        raise InvalidPlace("not a place of the same version")
    check_like(net, net_two)
    moves, moves_two = place_moves(net), place_moves(net_two)
    ahead = rows_ahead((place, place_two), lambda places: pair_moves(moves, moves_two, places))
    # If some way parts two things, so does one that leads each way to and fro through a class, of at most 383 steps.
    for pair in ahead:
        if (pair[0] == place) != (pair[1] == place_two):
            return (place[0], row_to(ahead, pair))
    return None


def check_like(net, net_two):
    """Raise Unlike for two nets that do not have the same versions and ends of steps."""
    if net[0] != net_two[0] or [step[:2] for step in net[1]] != [step[:2] for step in net_two[1]]:
        raise Unlike("not the same versions and ends of steps")


def pair_moves(moves, moves_two, pair):
    """Return the list of the steps from the places of a pair, of the same version, with the pair behind each."""
    # Both nets have the same steps from each version, and they stand in the same order.
    return [(step, (came, came_two)) for (step, came), (_, came_two) in zip(moves[pair[0]], moves_two[pair[1]])]


def paired_lot(moves, moves_two, lot, lots):
    """Return the new place of each place of a class, and the first of some classes that these are, or None."""
    place = lot[0]
    for other in lots:
        for place_two in other:
            if place_two[0] == place[0] and len(other) == len(lot):
                paired = paired_from(moves, moves_two, place, place_two)
                if paired is not None:
                    return (paired, other)
    return None


def paired_from(moves, moves_two, place, place_two):
    """Return the dict of the new place of each place of a class, if that of one is told, or None if steps bar this."""
    new = {place: place_two}
    level = [place]
    while level:
        deeper = []
        for one in level:
            ends = pair_moves(moves, moves_two, (one, new[one]))
            for _, (came, came_two) in ends:
                if came not in new:
                    new[came] = came_two
                    deeper.append(came)
                elif new[came] != came_two:
                    return None
        level = deeper
    return new
