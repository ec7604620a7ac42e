"""Whether a view may choose its change by what it has seen ahead of changes of other views."""

from puttingback.errors import InvalidNumber, InvalidSight
from puttingback.hubs import changes_in, check_hub, do_change, things_ahead, things_in, worths_in
from puttingback.reaching import row_to
from puttingback.values import is_below, is_numbers_row


def may_look_late(hub, view, sight):
    """Return whether a sight of a view may look late."""
    return late_row(hub, view, sight) is None


def late_row(hub, view, sight):
    """Return any thing and shortest row of changes of other views by which a sight may not look late, or None."""
    check_hub(hub)
    if not is_below(view, len(hub)):
        raise InvalidNumber("not the index of a view of the hub")
    if not is_numbers_row(sight, worths_in(hub, view), worths_in(hub, view), worths_in(hub, view)):
        raise InvalidSight("not a sight of the view")
    changes = [change for change in changes_in(hub) if change[0] != view]
    found = []
    for thing in range(things_in(hub)):
        ahead = things_ahead(hub, thing, changes)
        late = [end for end in ahead if is_late(hub, view, sight, thing, end)]
        if late:
            # Those with shorter rows stand first.
            row = row_to(ahead, late[0])
            found.append((len(row), thing, row))
    return min(found)[1:] if found else None


def is_late(hub, view, sight, seen, thing):
    """Return whether the changes chosen at two things, both done at the latter, come to unlike things or answers."""
    row = hub[view][0]
    return do_change(hub, thing, (view, sight[row[seen]])) != do_change(hub, thing, (view, sight[row[thing]]))
