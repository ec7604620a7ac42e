"""What lots of views are told of the changes of the others."""

from puttingback.hubs import changes_in, check_hub, check_lot, do_change, shown_to, things_in
from puttingback.values import is_numbers_row, tidy_row

# Classes in class papers are integers below this.
CLASSES = 12


def is_never_told(hub, lot):
    """Return whether a lot of views is never told of the others."""
    check_hub(hub)
    check_lot(hub, lot)
    return told_pair(hub, lot, told_rows(hub, lot)) is None


def class_paper(hub, lot):
    """Return any class paper for a lot of views, or None."""
    check_hub(hub)
    check_lot(hub, lot)
    rows = told_rows(hub, lot)
    if told_pair(hub, lot, rows) is not None:
        return None
    many = things_in(hub)
    # Things of which no row tells unlike things are of one class, that of the first one of these.
    return tidy_row([min([one for one in range(many) if (one, other) not in rows]) for other in range(many)])


def is_class_paper(hub, lot, value):
    """Return whether any value is a class paper for a lot of views."""
    check_hub(hub)
    check_lot(hub, lot)
    many = things_in(hub)
    if not is_numbers_row(value, many, many, CLASSES):
        return False
    for change in strange_changes(hub, lot):
        if any([value[do_change(hub, thing, change)[0]] != value[thing] for thing in range(many)]):
            return False
    return all([stay_alike(hub, lot, value, one, other) for other in range(many) for one in range(other)
                if value[one] == value[other]])


def told_row(hub, lot):
    """Return any thing, strange change and row of own changes by which a lot is told, no row being shorter, or None."""
    check_hub(hub)
    check_lot(hub, lot)
    rows = told_rows(hub, lot)
    found = told_pair(hub, lot, rows)
    if found is None:
        return None
    thing, change = found
    return (thing, change, rows[(thing, do_change(hub, thing, change)[0])])


def own_changes(hub, lot):
    """Return the ascending list of the changes of the views of a lot."""
    return [change for change in changes_in(hub) if change[0] in lot]


def strange_changes(hub, lot):
    """Return the ascending list of the changes of the views that are not in a lot."""
    return [change for change in changes_in(hub) if change[0] not in lot]


def stay_alike(hub, lot, classes, one, other):
    """Return whether a lot is shown the same of two things, and each own change answers alike and keeps their class."""
    if shown_to(hub, lot, one) != shown_to(hub, lot, other):
        return False
    for change in own_changes(hub, lot):
        end, answer = do_change(hub, one, change)
        other_end, other_answer = do_change(hub, other, change)
        if answer != other_answer or classes[end] != classes[other_end]:
            return False
    return True


def told_rows(hub, lot):
    """Return the dict, for each pair of things that a row of own changes tells from one another, of a shortest one."""
    many = things_in(hub)
    pairs = [(one, other) for one in range(many) for other in range(many)]
    rows = {pair: () for pair in pairs if shown_to(hub, lot, pair[0]) != shown_to(hub, lot, pair[1])}
    own = own_changes(hub, lot)
    # A row is found in as many rounds as it has changes, and no shortest one has more of them than there are things.
    for _ in range(many):
        found = {}
        for pair in pairs:
            for change in own:
                row = row_begun(hub, rows, pair, change)
                if pair not in rows and row is not None:
                    found.setdefault(pair, row)
        for pair in found:
            rows[pair] = found[pair]
    return rows


def row_begun(hub, rows, pair, change):
    """Return a row that begins with a change and tells the things of a pair apart, by those for others, or None."""
    end, answer = do_change(hub, pair[0], change)
    other_end, other_answer = do_change(hub, pair[1], change)
    if answer != other_answer:
        return (change,)
    return (change,) + rows[(end, other_end)] if (end, other_end) in rows else None


def told_pair(hub, lot, rows):
    """Return the thing and the strange change whose end is told from it by a shortest row, or None."""
    found = []
    for thing in range(things_in(hub)):
        for change in strange_changes(hub, lot):
            pair = (thing, do_change(hub, thing, change)[0])
            if pair in rows:
                found.append((len(rows[pair]), thing, change))
    return min(found)[1:] if found else None
