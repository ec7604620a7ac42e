"""Hubs: several views that change the same things by turns."""

from puttingback.errors import InvalidHub, InvalidLot, InvalidNumber, InvalidRow, InvalidTerm
from puttingback.kinds import check_kind, many_things
from puttingback.reaching import rows_ahead
from puttingback.tables import puts_of, showing_of
from puttingback.terms import is_term_over, worths_kind
from puttingback.values import is_ascending, is_below, is_numbers_row, is_row, is_table

MOST_VIEWS = 4
MOST_THINGS = 12
MOST_WORTHS = 4
MOST_CHANGES = 60


def is_hub(value):
    """Return whether any value is a hub."""
    if not is_row(value, 1, MOST_VIEWS) or not is_row(value[0], 2, 2) or not is_row(value[0][0], 1, MOST_THINGS):
        return False
    return all([is_view(view, len(value[0][0])) for view in value])


def hub_of(kind, terms):
    """Return the hub with what some terms show of the things of a kind, and with their puts."""
    check_kind(kind)
    if not is_row(terms, 1, MOST_VIEWS) or not all([is_term_over(kind, term) for term in terms]):
        raise InvalidTerm("not a row of terms over the kind")
    # This is asked ahead of all puts, which could be too many.
    if not 1 <= many_things(kind) <= MOST_THINGS:
        raise InvalidHub("no things, or too many")
    if not all([1 <= many_things(worths_kind(kind, term)) <= MOST_WORTHS for term in terms]):
        raise InvalidHub("no worths, or too many")
    return tuple([(showing_of(kind, term), puts_of(kind, term)) for term in terms])


def done_at(hub, at, row):
    """Return the pair of the thing to which a row of changes comes, and of its answers."""
    check_hub(hub)
    check_at(hub, at)
    check_changes(hub, row)
    return do_row(hub, at, row)


def heard_by(hub, lot, at, row):
    """Return what a lot of views hears of a row of changes."""
    check_hub(hub)
    check_lot(hub, lot)
    check_at(hub, at)
    check_changes(hub, row)
    end, answers = do_row(hub, at, row)
    own = tuple([answer for change, answer in zip(row, answers) if change[0] in lot])
    return (own, shown_to(hub, lot, end))


def are_woven(hub, row, beside):
    """Return whether two rows of changes are woven of the same."""
    check_hub(hub)
    check_changes(hub, row)
    check_changes(hub, beside)
    return woven_alike(hub, row, beside)


def end_alike(hub, at, row, beside):
    """Return whether two rows of changes that are woven of the same end alike at a thing."""
    check_hub(hub)
    check_at(hub, at)
    check_changes(hub, row)
    check_changes(hub, beside)
    if not woven_alike(hub, row, beside):
        raise InvalidRow("not woven of the same")
    return do_end_alike(hub, at, row, beside)


def check_hub(hub):
    """Raise InvalidHub for what is no hub."""
    if not is_hub(hub):
        raise InvalidHub("not a hub")


def check_at(hub, at):
    """Raise InvalidNumber for what is no thing of a hub."""
    if not is_below(at, things_in(hub)):
        raise InvalidNumber("not a thing of the hub")


def check_changes(hub, row):
    """Raise InvalidRow for what is no row of changes of a hub."""
    if not is_row(row, 0, MOST_CHANGES) or not all([is_change(hub, change) for change in row]):
        raise InvalidRow("not a row of changes of the hub")


def check_lot(hub, lot):
    """Raise InvalidLot for what is no lot of the views of a hub."""
    if not is_numbers_row(lot, 0, len(hub), len(hub)) or not is_ascending(lot):
        raise InvalidLot("not a lot of views of the hub")


def is_view(value, things):
    """Return whether any value is a view of so many things."""
    if not is_row(value, 2, 2) or not is_row(value[1], things, things) or not is_row(value[1][0], 1, MOST_WORTHS):
        return False
    worths = len(value[1][0])
    return is_numbers_row(value[0], things, things, worths) and is_table(value[1], things, worths)


def is_change(hub, value):
    """Return whether any value is a change of a hub."""
    return is_row(value, 2, 2) and is_below(value[0], len(hub)) and is_below(value[1], worths_in(hub, value[0]))


def things_in(hub):
    """Return how many things a hub has."""
    return len(hub[0][0])


def worths_in(hub, view):
    """Return how many worths a view of a hub has."""
    return len(hub[view][1][0])


def changes_in(hub):
    """Return the ascending list of all changes of a hub."""
    return [(view, worth) for view in range(len(hub)) for worth in range(worths_in(hub, view))]


def shown_to(hub, lot, at):
    """Return the row of what the views of a lot show of a thing."""
    return tuple([hub[view][0][at] for view in lot])


def do_change(hub, at, change):
    """Return the pair of the thing to which a change comes, and of its answer."""
    end = hub[change[0]][1][at][change[1]]
    return (at, False) if end is None else (end, True)


def do_row(hub, at, row):
    """Return the pair of the thing to which a row of changes comes, and of its answers."""
    answers = []
    for change in row:
        at, answer = do_change(hub, at, change)
        answers.append(answer)
    return (at, tuple(answers))


def by_views(hub, row, told):
    """Return the list, for each view, of what is told of its changes in a row, in order."""
    return [[one for change, one in zip(row, told) if change[0] == view] for view in range(len(hub))]


def woven_alike(hub, row, beside):
    """Return whether two rows have the same changes of each view in the same order."""
    return by_views(hub, row, row) == by_views(hub, beside, beside)


def do_end_alike(hub, at, row, beside):
    """Return whether two rows woven of the same come to the same thing, with the same answers for each view."""
    end, answers = do_row(hub, at, row)
    other_end, other_answers = do_row(hub, at, beside)
    return end == other_end and by_views(hub, row, answers) == by_views(hub, beside, other_answers)


def things_ahead(hub, at, changes):
    """Return what rows_ahead does of the things of a hub, from one on, by some changes."""
    return rows_ahead(at, lambda thing: [(change, do_change(hub, thing, change)[0]) for change in changes])
