"""Namings, rings and classes of turning nets."""

from puttingback.kinds import many_things
from puttingback.nets import all_places, check_place, check_turning, places_ahead
from puttingback.reaching import row_to
from puttingback.values import is_numbers_row, is_row

# The names in a naming are integers below this.
NAMES = 201


def naming_of(net):
    """Return any naming of a turning net, or None."""
    check_turning(net)
    names = {}
    for name, lot in enumerate(all_classes(net)):
        if two_of_one(lot) is not None:
            return None
        for place in lot:
            names[place] = name
    return tuple([tuple([names[(version, number)] for number in range(many_things(kind))])
                  for version, kind in enumerate(net[0])])


def is_naming(net, value):
    """Return whether any value is a naming of a turning net."""
    check_turning(net)
    versions, steps = net
    if not is_row(value, len(versions), len(versions)):
        return False
    for kind, row in zip(versions, value):
        many = many_things(kind)
        if not is_numbers_row(row, many, many, NAMES) or len({name for name in row}) < many:
            return False
    return all([value[one][number] == value[other][end] for one, other, row in steps for number, end in enumerate(row)])


def moving_ring(net):
    """Return any pair of a ring and of the number of a thing that it leads to another one, or None."""
    check_turning(net)
    for lot in all_classes(net):
        found = two_of_one(lot)
        if found is not None:
            # The shortest way between two places of a class goes through each of its places once at most.
            return ((found[0][0], row_to(places_ahead(net, found[0]), found[1])), found[0][1])
    return None


def classes_of(net):
    """Return the ascending list of the classes of a turning net."""
    check_turning(net)
    return all_classes(net)


def way_between(net, place, place_two):
    """Return any way that leads from one place of a turning net to another one, or None."""
    check_turning(net)
    check_place(net, place)
    check_place(net, place_two)
    ahead = places_ahead(net, place)
    return (place[0], row_to(ahead, place_two)) if place_two in ahead else None


def all_classes(net):
    """Return the ascending list of the classes of what surely is a turning net."""
    known = {}
    lots = []
    for place in all_places(net):
        if place not in known:
            # As each step can be gone back, the places of a class are all those to which ways lead from one of them.
            lot = tuple(sorted(places_ahead(net, place)))
            for other in lot:
                known[other] = True
            lots.append(lot)
    return lots


def two_of_one(lot):
    """Return the first two places of a class that are of the same version, or None."""
    for one, other in zip(lot, lot[1:]):
        if one[0] == other[0]:
            return (one, other)
    return None
