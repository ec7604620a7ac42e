"""What ways of steps lose of things, and what must be kept beside."""

from puttingback.errors import NoThings
from puttingback.kinds import all_leaves, all_things, at_leaf, many_things
from puttingback.nets import check_net, check_way, end_of, led_row
from puttingback.values import least_lots


def leaves_told(net, way):
    """Return the ascending list of the leaves that a way tells."""
    check_net(net)
    check_way(net, way)
    kind = net[0][way[0]]
    pairs = lost_things(net, way)
    return [leaf for leaf in all_leaves(kind) if not any([do_differ(pair, leaf) for pair in pairs])]


def lost_pair(net, way):
    """Return the first lost pair of numbers of a way, the lesser one first, or None."""
    check_net(net)
    check_way(net, way)
    pairs = lost_pairs(net, way)
    return pairs[0] if pairs else None


def row_back(net, way):
    """Return any row back by which all leaves that a way tells are as they were."""
    check_net(net)
    check_way(net, way)
    row = led_row(net, way)
    if not row:
        raise NoThings("the version at which the way begins has no things")
    # Things that the way leads to one agree in all leaves that it tells; to what it does not lead, any may be led.
    return tuple([row.index(end) if end in row else 0 for end in range(many_things(net[0][end_of(net, way)]))])


def least_kept(net, way):
    """Return the ascending list of all rows of leaves that are least of those that are kept."""
    check_net(net)
    check_way(net, way)
    pairs = lost_things(net, way)
    # All others may be left out of what is kept, and there may be very many of them.
    leaves = [leaf for leaf in all_leaves(net[0][way[0]]) if any([do_differ(pair, leaf) for pair in pairs])]
    lots = least_lots(len(leaves), lambda row: is_kept(pairs, [leaves[at] for at in row]))
    return [tuple([leaves[index] for index in lot]) for lot in lots]


def lost_pairs(net, way):
    """Return the ascending list of the lost pairs of numbers of a way, the lesser one first."""
    row = led_row(net, way)
    many = len(row)
    return [(one, other) for one in range(many) for other in range(one + 1, many) if row[one] == row[other]]


def lost_things(net, way):
    """Return the list of the lost pairs of things of a way."""
    things = all_things(net[0][way[0]])
    return [(things[one], things[other]) for one, other in lost_pairs(net, way)]


def do_differ(pair, leaf):
    """Return whether the two things of a pair differ in a leaf."""
    return at_leaf(pair[0], leaf) != at_leaf(pair[1], leaf)


def is_kept(pairs, leaves):
    """Return whether the things of each of some pairs differ in one of some leaves."""
    return all([any([do_differ(pair, leaf) for leaf in leaves]) for pair in pairs])
