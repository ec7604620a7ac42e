"""Whether the order of changes of unlike views matters, and which changes must be left out so that it does not."""

from puttingback.hubs import changes_in, check_at, check_hub, do_end_alike, things_ahead, things_in
from puttingback.reaching import row_to
from puttingback.values import all_lots


def orders_agree(hub, at):
    """Return whether orders agree from a thing."""
    return parting_changes(hub, at) is None


def parting_changes(hub, at):
    """Return the first lead behind which two changes of unlike views do not end alike in both orders, or None."""
    check_hub(hub)
    check_at(hub, at)
    ahead = things_ahead(hub, at, changes_in(hub))
    for thing in ahead:
        for one, other in unlike_changes(hub):
            if do_part(hub, thing, one, other):
                return (row_to(ahead, thing), one, other)
    return None


def hub_fences(hub):
    """Return the ascending list of all fences of a hub of as few changes as there can be."""
    check_hub(hub)
    changes = changes_in(hub)
    parting = [(changes.index(one), changes.index(other)) for one, other in unlike_changes(hub)
               if any([do_part(hub, thing, one, other) for thing in range(things_in(hub))])]
    fences = []
    # The lots with fewer changes stand first.
    for lot in all_lots(len(changes)):
        if fences and len(lot) > len(fences[0]):
            break
        if is_fence(lot, parting):
            fences.append(tuple([changes[index] for index in lot]))
    return fences


def unlike_changes(hub):
    """Return the ascending list of all pairs of changes of unlike views, the lesser change first."""
    changes = changes_in(hub)
    return [(one, other) for one in changes for other in changes if one[0] < other[0]]


def do_part(hub, at, one, other):
    """Return whether two changes of unlike views do not end alike in both orders at a thing."""
    return not do_end_alike(hub, at, (one, other), (other, one))


def is_fence(lot, parting):
    """Return whether a lot has one of both indices of each of some pairs."""
    for one, other in parting:
        if one not in lot and other not in lot:
            return False
    return True
