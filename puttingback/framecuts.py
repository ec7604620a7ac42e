"""Cuts of frames: sheets parted, and joined again."""

from puttingback.errors import InvalidCut, InvalidSheet
from puttingback.framelots import MOST_ROWS, check_frame, check_sheet, closed, is_lot, is_rows, part_of, two_rows
from puttingback.values import is_row


def parted_sheet(frame, cut, sheet):
    """Return the pair of the parts of a sheet."""
    check_frame(frame)
    check_cut(frame, cut)
    check_sheet(frame, sheet)
    return (part_shown(frame, cut[0], sheet), part_shown(frame, cut[1], sheet))


def joined_parts(frame, cut, one, other):
    """Return the ascending row of the rows to which two sheets of the columns of the lots are joined."""
    check_frame(frame)
    check_cut(frame, cut)
    check_part(cut[0], one)
    check_part(cut[1], other)
    rows = []
    for row in one:
        for beside in other:
            if part_of(cut[0], cut[1], row) == part_of(cut[1], cut[0], beside):
                numbers = dict(zip(cut[0] + cut[1], row + beside))
                rows.append(tuple([numbers[column] for column in frame[0]]))
    return tuple(sorted(rows))


def can_part(frame, cut):
    """Return whether the parts of each sheet are joined to it."""
    check_frame(frame)
    check_cut(frame, cut)
    return tells_part(cut, told_in_common(frame, cut))


def unjoined_sheet(frame, cut):
    """Return any sheet of two rows whose parts are not joined to it, or None if there is none."""
    check_frame(frame)
    check_cut(frame, cut)
    told = told_in_common(frame, cut)
    return None if tells_part(cut, told) else two_rows(frame, told)


def check_cut(frame, cut):
    """Raise InvalidCut for what is no cut of a frame."""
    columns = frame[0]
    if not is_row(cut, 2, 2) or not is_lot(columns, cut[0]) or not is_lot(columns, cut[1]) or () in cut:
        raise InvalidCut("not two lots of columns")
    if not all([column in cut[0] or column in cut[1] for column in columns]):
        raise InvalidCut("not all columns")


def check_part(lot, part):
    """Raise InvalidSheet for what is no sheet of the columns of a lot."""
    if not is_rows(part, MOST_ROWS, len(lot)):
        raise InvalidSheet("not a sheet of the columns of the lot")


def part_shown(frame, lot, rows):
    """Return the sheet of the columns of a lot with all of some rows, without the other columns."""
    return tuple(sorted({part_of(frame[0], lot, row) for row in rows}))


def told_in_common(frame, cut):
    """Return the closure of the columns that both lots of a cut have."""
    return closed(frame, tuple([column for column in cut[0] if column in cut[1]]))


def tells_part(cut, told):
    """Return whether a lot has all columns of one part of a cut."""
    return all([column in told for column in cut[0]]) or all([column in told for column in cut[1]])
