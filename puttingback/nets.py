"""Nets of versions, with steps that lead the things of one to those of another one, and ways of steps."""

from puttingback.errors import InvalidNet, InvalidPlace, InvalidWay, NotTurning
from puttingback.kinds import is_kind, many_things
from puttingback.reaching import rows_ahead
from puttingback.values import is_below, is_integer, is_numbers_row, is_row

MOST_VERSIONS = 8
MOST_THINGS = 24
MOST_STEPS = 14
MOST_WAY = 400


def is_net(value):
    """Return whether any value is a net."""
    if not is_row(value, 2, 2) or not is_row(value[0], 1, MOST_VERSIONS) or not is_row(value[1], 0, MOST_STEPS):
        return False
    if not all([is_kind(kind) and many_things(kind) <= MOST_THINGS for kind in value[0]]):
        return False
    return all([is_step(value[0], step) for step in value[1]])


def is_turning(net):
    """Return whether a net is turning."""
    check_net(net)
    return does_turn(net)


def is_way(net, value):
    """Return whether any value is a way of a net."""
    check_net(net)
    return end_of(net, value) is not None


def way_end(net, way):
    """Return the version at which a way ends."""
    check_net(net)
    check_way(net, way)
    return end_of(net, way)


def way_row(net, way):
    """Return the row with the number of what a way leads each thing to."""
    check_net(net)
    check_way(net, way)
    return led_row(net, way)


def check_net(net):
    """Raise InvalidNet for what is no net."""
    if not is_net(net):
        raise InvalidNet("not a net")


def check_turning(net):
    """Raise InvalidNet for what is no net, and NotTurning for one that is not turning."""
    check_net(net)
    if not does_turn(net):
        raise NotTurning("a step does not lead to each number once")


def check_way(net, way):
    """Raise InvalidWay for what is no way of a net."""
    if end_of(net, way) is None:
        raise InvalidWay("not a way of the net")


def check_place(net, place):
    """Raise InvalidPlace for what is no place of a net."""
    if not is_row(place, 2, 2) or not is_below(place[0], len(net[0])):
        raise InvalidPlace("not a version, with a number")
    if not is_below(place[1], many_things(net[0][place[0]])):
        raise InvalidPlace("not the number of a thing of the version")


def is_step(versions, value):
    """Return whether any value is a step between some versions."""
    if not is_row(value, 3, 3) or not is_numbers_row(value[:2], 2, 2, len(versions)):
        return False
    things, others = many_things(versions[value[0]]), many_things(versions[value[1]])
    return is_numbers_row(value[2], things, things, others)


def does_turn(net):
    """Return whether each step of a net leads to each number of its other version just once."""
    versions, steps = net
    return all([sorted(row) == list(range(many_things(versions[other]))) for _, other, row in steps])


def leads_of(net):
    """Return the dict, for each integer that stands for a step in ways, of where it begins and ends, and of its row."""
    leads = {index: step for index, step in enumerate(net[1])}
    if does_turn(net):
        for index, (one, other, row) in enumerate(net[1]):
            leads[-1 - index] = (other, one, tuple([row.index(number) for number in range(len(row))]))
    return leads


def end_of(net, value):
    """Return the version at which any value ends as a way of a net, or None if it is none."""
    if not is_row(value, 2, 2) or not is_below(value[0], len(net[0])) or not is_row(value[1], 0, MOST_WAY):
        return None
    leads = leads_of(net)
    version = value[0]
    for step in value[1]:
        if not is_integer(step) or step not in leads or leads[step][0] != version:
            return None
        version = leads[step][1]
    return version


def led_row(net, way):
    """Return the row with the number of what a way leads each thing to."""
    leads = leads_of(net)
    version, steps = way
    row = tuple(range(many_things(net[0][version])))
    for step in steps:
        row = tuple([leads[step][2][number] for number in row])
    return row


def all_places(net):
    """Return the ascending list of all places of a net."""
    return [(version, number) for version, kind in enumerate(net[0]) for number in range(many_things(kind))]


def place_moves(net):
    """Return the dict, for each place of a net, of the list of all steps from it, with the place behind each."""
    moves = {place: [] for place in all_places(net)}
    for step, (one, other, row) in leads_of(net).items():
        for number, end in enumerate(row):
            moves[(one, number)].append((step, (other, end)))
    return moves


def places_ahead(net, place):
    """Return what rows_ahead does of the places of a net, from one on, by all steps that stand in ways."""
    moves = place_moves(net)
    return rows_ahead(place, lambda other: moves[other])
