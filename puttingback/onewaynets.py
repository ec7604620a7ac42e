"""Nets whose ways of steps on come to the same, told by one table from each version."""

from puttingback.errors import InvalidVersion
from puttingback.kinds import many_things
from puttingback.nets import check_net
from puttingback.values import is_below


def table_from(net, version):
    """Return the row, for each version, of the row to which all ways on lead, or None if two lead to unlike rows."""
    check_net(net)
    if not is_below(version, len(net[0])):
        raise InvalidVersion("not the index of a version")
    ways, rows = ways_on(net, version)
    if step_apart(net, rows) is not None:
        return None
    return tuple([rows.get(other) for other in range(len(net[0]))])


def parting_ways(net):
    """Return any two ways on with the same beginning and end, and a thing that they lead to unlike ones, or None."""
    check_net(net)
    for version in range(len(net[0])):
        ways, rows = ways_on(net, version)
        found = step_apart(net, rows)
        if found is not None:
            index, number = found
            one, other, _ = net[1][index]
            return ((version, ways[one] + (index,)), (version, ways[other]), number)
    return None


def ways_on(net, version):
    """Return two dicts, for each version to which ways on lead from one: the steps of a shortest one, and its row."""
    ways = {version: ()}
    rows = {version: tuple(range(many_things(net[0][version])))}
    level = [version]
    while level:
        deeper = []
        for place in level:
            for index, (one, other, row) in enumerate(net[1]):
                if one == place and other not in ways:
                    ways[other] = ways[one] + (index,)
                    rows[other] = tuple([row[number] for number in rows[one]])
                    deeper.append(other)
        level = deeper
    return (ways, rows)


def step_apart(net, rows):
    """Return the index of a step that does not lead one of some rows to another one, and of a thing for which, or None.

    The rows are closed under all steps, so that all ways lead to them, just if there is no such step.
    """
    for index, (one, other, row) in enumerate(net[1]):
        if one in rows:
            for number, came in enumerate(rows[one]):
                if row[came] != rows[other][number]:
                    return (index, number)
    return None
