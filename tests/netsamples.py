"""Many nets, and a slow reading of points 43 and 44 beside the program."""

from itertools import product

from tests.chance import Chance
from tests.samples import slow_things

N = ((2, 2, 3), ((0, 1, (1, 0)), (1, 0, (1, 0)), (2, 2, (1, 2, 0))))
O = ((2, 3), ((0, 1, (2, 2)), (1, 1, (0, 1, 1))))

SMALL = [0, 1, 2, 3, (("a", 2),), (("a", 2), ("b", 2)), (("a", 3), ("b", 1)), (("a", 2), ("b", 0)), 4]
GREATEST = (("a", 2), ("b", 3), ("c", 4))

# The greatest turning net, of one ring of eight versions and more steps beside; one in which steps lose; and the least one.
RING = ((GREATEST,) * 8, tuple((at % 8, (at + 1) % 8, tuple((number * 5 + at) % 24 for number in range(24))) for at in range(14)))
LOSING = ((GREATEST,) * 8, tuple((at % 8, (at + 1) % 8, tuple((number * (at % 3 + 1)) % 24 for number in range(24)))
                                 for at in range(14)))
LEAST = ((0,), ())


def many_of(net, version):
    """Return how many things a version has."""
    return len(slow_things(net[0][version]))


def nets(many, turning, most_versions=3, most_steps=4):
    """Return many nets, turning ones or any ones."""
    found = [LEAST, ((2,), ()), ((0, 0), ((0, 1, ()), (1, 1, ()))), N, ((0, 2), ()), ((1, 1), ((0, 1, (0,)), (1, 0, (0,))))]
    if not turning:
        found += [O, ((0, 2), ((0, 1, ()),)), ((2, 1), ((0, 1, (0, 0)), (1, 0, (1,))))]
    for seed in range(many):
        chance = Chance(seed)
        if turning:
            group = chance.one_of([[2, (("a", 2),)], [3, (("a", 3), ("b", 1))], [4, (("a", 2), ("b", 2))], [3, 2, 3], [1, 2]])
        else:
            group = SMALL
        versions = tuple(chance.one_of(group) for _ in range(1 + chance.below(most_versions)))
        steps = []
        for _ in range(chance.below(most_steps + 1)):
            one, other = chance.below(len(versions)), chance.below(len(versions))
            things, ends = slow_things(versions[one]), slow_things(versions[other])
            if turning and len(things) == len(ends):
                left = list(range(len(ends)))
                steps.append((one, other, tuple(left.pop(chance.below(len(left)) if chance.below(3) else 0) for _ in things)))
            elif not turning and (ends or not things):
                steps.append((one, other, tuple(chance.below(len(ends)) for _ in things)))
        found.append((versions, tuple(steps)))
    return found


def slow_turning(net):
    """Return whether a net is turning, read word by word."""
    return all(row.count(number) == 1 for _, other, row in net[1] for number in range(many_of(net, other))) and all(
        len(row) == many_of(net, other) for _, other, row in net[1])


def slow_lead(net, step, version, number):
    """Return the version and number to which a step of a way leads, or None if it does not begin there."""
    one, other, row = net[1][step if step >= 0 else -1 - step]
    if step < 0:
        return (one, row.index(number)) if version == other else None
    return (other, row[number]) if version == one else None


def slow_end(net, way):
    """Return the version at which a way ends, or None if it is none."""
    version, back = way[0], slow_turning(net)
    for step in way[1]:
        if not (-len(net[1]) if back else 0) <= step < len(net[1]):
            return None
        one, other, _ = net[1][step if step >= 0 else -1 - step]
        if version != (one if step >= 0 else other):
            return None
        version = other if step >= 0 else one
    return version


def slow_row(net, way):
    """Return the row of what a way leads each thing to."""
    ends = []
    for number in range(many_of(net, way[0])):
        place = (way[0], number)
        for step in way[1]:
            place = slow_lead(net, step, *place)
        ends.append(place[1])
    return tuple(ends)


def ways_of(net, version, longest, back):
    """Return all ways from a version of at most so many steps, with those back or without."""
    found, level = [(version, ())], [(version, ())]
    for _ in range(longest):
        level = [(version, row + (step,)) for _, row in level for step in range(-len(net[1]) if back else 0, len(net[1]))]
        level = [way for way in level if slow_end_any(net, way) is not None]
        found += level
    return found


def slow_end_any(net, way):
    """Return the version at which a way with steps back ends, whether the net is turning or not, or None."""
    version = way[0]
    for step in way[1]:
        one, other, _ = net[1][step if step >= 0 else -1 - step]
        if version != (one if step >= 0 else other):
            return None
        version = other if step >= 0 else one
    return version


def walk(net, chance, version, longest, back):
    """Return a way of at most so many steps."""
    row, at = [], version
    for _ in range(longest):
        steps = [step for step in range(-len(net[1]) if back else 0, len(net[1])) if slow_end_any(net, (at, (step,))) is not None]
        if not steps:
            break
        row.append(chance.one_of(steps))
        at = slow_end_any(net, (at, (row[-1],)))
    return (version, tuple(row))


def places(net):
    """Return all places of a net."""
    return [(version, number) for version in range(len(net[0])) for number in range(many_of(net, version))]


def slow_classes(net):
    """Return the classes of a net: lots of places joined until each step stays within them."""
    lots = [{place} for place in places(net)]
    for one, other, row in net[1]:
        for number, end in enumerate(row):
            joined = [lot for lot in lots if (one, number) in lot or (other, end) in lot]
            lots = [lot for lot in lots if lot not in joined] + [set().union(*joined)]
    return sorted(tuple(sorted(lot)) for lot in lots)


def all_namings(net, names):
    """Yield all rows of names of the places of a net, below a number."""
    lots = [product(range(names), repeat=many_of(net, version)) for version in range(len(net[0]))]
    yield from product(*lots)
