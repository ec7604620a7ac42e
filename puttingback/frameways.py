"""A column of a frame left out: what is shown, and the ways back."""

from puttingback.errors import InvalidColumn, InvalidShown
from puttingback.framelots import (MOST_ROWS, check_column, check_frame, check_sheet, closed, is_sheet_of, keeps_all,
                                   lots_of, part_of)

MOST_BACK = 24


def without_column(frame, column, sheet):
    """Return what is shown of a sheet if a loose column is left out."""
    check_frame(frame)
    check_loose(frame, column)
    check_sheet(frame, sheet)
    return shown_without(frame, column, sheet)


def may_be_shown(frame, column, value):
    """Return whether any value may be shown if a loose column is left out."""
    check_frame(frame)
    check_loose(frame, column)
    return is_sheet_of(frame_without(frame, column), value, MOST_ROWS)


def way_back(frame, column, sheet, shown):
    """Return any way back of a sheet and of what may be shown, or None if there is none."""
    check_frame(frame)
    check_loose(frame, column)
    check_sheet(frame, sheet)
    check_shown(frame, column, shown)
    rows = kept_rows_of(frame, column, sheet, shown)
    known = told_numbers(frame, column, rows, shown)
    have = [row_without(frame, column, row) for row in rows]
    at = frame[0].index(column)
    # Where no row that is kept tells the integer, any one serves, if it is the same for all of these.
    added = [row[:at] + (known.get(row, 0),) + row[at:] for row in shown if row not in have]
    rows = tuple(sorted(rows + added))
    return rows if keeps_all(frame, rows) else None


def is_way_back(frame, column, sheet, shown, value):
    """Return whether any value is a way back of a sheet and of what may be shown."""
    check_frame(frame)
    check_loose(frame, column)
    check_sheet(frame, sheet)
    check_shown(frame, column, shown)
    if not is_sheet_of(frame, value, MOST_BACK) or shown_without(frame, column, value) != shown:
        return False
    return all([row in value for row in kept_rows_of(frame, column, sheet, shown)])


def forcing_lots(frame, column):
    """Return the ascending list of the lots that force a loose column."""
    check_frame(frame)
    check_loose(frame, column)
    return all_forcing(frame, column)


def can_leave_out(frame, column):
    """Return whether a loose column can be left out with ways back for all sheets and all that may be shown."""
    check_frame(frame)
    check_loose(frame, column)
    return crossing_lots(frame, column) is None


def unserved_change(frame, column):
    """Return any pair of a sheet and of what may be shown that has no way back, or None if there is none."""
    check_frame(frame)
    check_loose(frame, column)
    crossing = crossing_lots(frame, column)
    if crossing is None:
        return None
    # Two rows are alike with a third one in a lot each, which would tell both the same integer, though they differ.
    first = tuple([0 if one in crossing[0] else 1 for one in frame[0]])
    second = tuple([0 if one in crossing[1] else 2 for one in frame[0]])
    third = tuple([0 for one in frame[0]])
    return (tuple(sorted([first, second])), shown_without(frame, column, (first, second, third)))


def check_loose(frame, column):
    """Raise InvalidColumn for what is no loose column of a frame."""
    check_column(frame, column)
    if any([column in lot for lot, _ in frame[1]]):
        raise InvalidColumn("not a loose column")


def check_shown(frame, column, shown):
    """Raise InvalidShown for what may not be shown if a column is left out."""
    if not is_sheet_of(frame_without(frame, column), shown, MOST_ROWS):
        raise InvalidShown("not what may be shown")


def frame_without(frame, column):
    """Return the pair of the other columns of a frame (perhaps none), and of the dependencies of these."""
    others = tuple([one for one in frame[0] if one != column])
    return (others, tuple([dependency for dependency in frame[1] if dependency[1] != column]))


def row_without(frame, column, row):
    """Return what is shown of a row if a column is left out."""
    return tuple([number for one, number in zip(frame[0], row) if one != column])


def shown_without(frame, column, rows):
    """Return the sheet of what is shown of some rows if a column is left out."""
    return tuple(sorted({row_without(frame, column, row) for row in rows}))


def kept_rows_of(frame, column, sheet, shown):
    """Return the list of the rows of a sheet that each way back must have."""
    return [row for row in sheet if row_without(frame, column, row) in shown]


def told_numbers(frame, column, rows, shown):
    """Return the dict of the integers of a column that kept rows tell rows of what is shown, one by another.

    A row to which two integers are told has one of these, by which the dependencies are not kept.
    """
    others = frame_without(frame, column)[0]
    at = frame[0].index(column)
    known = {row_without(frame, column, row): row[at] for row in rows}
    lots = [lot for lot, told in frame[1] if told == column]
    many = -1
    while len(known) > many:
        many = len(known)
        for lot in lots:
            told_by = {part_of(others, lot, row): known[row] for row in known}
            for row in shown:
                if row not in known and part_of(others, lot, row) in told_by:
                    known[row] = told_by[part_of(others, lot, row)]
    return known


def all_forcing(frame, column):
    """Return the ascending list of the lots that force what surely is a loose column."""
    others = frame_without(frame, column)[0]
    found = []
    for lot in lots_of(others):
        told = closed(frame, lot)
        # A lot that has the lot of a dependency of the column tells it; all that it tells else, it must have.
        has_ahead = [ahead for ahead, one in frame[1] if one == column and all([word in lot for word in ahead])]
        if lot != others and has_ahead and len(told) == len(lot) + 1:
            found.append(lot)
    return sorted(found)


def crossing_lots(frame, column):
    """Return any two lots that force a loose column, while what they have in common does not, or None."""
    forcing = all_forcing(frame, column)
    for one in forcing:
        for other in forcing:
            if tuple([word for word in one if word in other]) not in forcing:
                return (one, other)
    return None
