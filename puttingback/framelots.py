"""Frames, their sheets, and which lots of columns tell which other ones."""

from puttingback.errors import InvalidColumn, InvalidFrame, InvalidLot, InvalidSheet
from puttingback.values import all_lots, is_ascending, is_integer, is_row, is_word

MOST_COLUMNS = 6
MOST_DEPENDENCIES = 8
MOST_ROWS = 12
GREATEST = 1000000


def is_frame(value):
    """Return whether any value is a frame."""
    if not is_row(value, 2, 2) or not is_row(value[0], 1, MOST_COLUMNS) or not is_row(value[1], 0, MOST_DEPENDENCIES):
        return False
    columns, dependencies = value
    if not all([is_word(column) for column in columns]) or not is_ascending(columns):
        return False
    if not all([is_dependency(columns, dependency) for dependency in dependencies]):
        return False
    return len({dependency for dependency in dependencies}) == len(dependencies)


def is_sheet(frame, value):
    """Return whether any value is a sheet of a frame."""
    check_frame(frame)
    return is_sheet_of(frame, value, MOST_ROWS)


def closure_of(frame, lot):
    """Return the closure of a lot."""
    check_frame(frame)
    check_lot(frame, lot)
    return closed(frame, lot)


def closed_lots(frame):
    """Return the ascending list of all closed lots."""
    check_frame(frame)
    return sorted([lot for lot in lots_of(frame[0]) if closed(frame, lot) == lot])


def telling_row(frame, lot, column):
    """Return any telling row for a lot and a column, or None."""
    check_frame(frame)
    check_lot(frame, lot)
    check_column(frame, column)
    told = lot_with_told(frame, lot)
    return told[column] if column in told else None


def untold_sheet(frame, lot, column):
    """Return any sheet of two rows that are alike in a lot and not in a column, or None."""
    check_frame(frame)
    check_lot(frame, lot)
    check_column(frame, column)
    told = closed(frame, lot)
    return None if column in told else two_rows(frame, told)


def check_frame(frame):
    """Raise InvalidFrame for what is no frame."""
    if not is_frame(frame):
        raise InvalidFrame("not a frame")


def check_lot(frame, lot):
    """Raise InvalidLot for what is no lot of the columns of a frame."""
    if not is_lot(frame[0], lot):
        raise InvalidLot("not a lot of columns")


def check_column(frame, column):
    """Raise InvalidColumn for what is no column of a frame."""
    if column not in frame[0]:
        raise InvalidColumn("not a column")


def check_sheet(frame, sheet):
    """Raise InvalidSheet for what is no sheet of a frame."""
    if not is_sheet_of(frame, sheet, MOST_ROWS):
        raise InvalidSheet("not a sheet of the frame")


def is_lot(columns, value):
    """Return whether any value is a lot of columns."""
    return is_row(value, 0, len(columns)) and all([column in columns for column in value]) and is_ascending(value)


def is_dependency(columns, value):
    """Return whether any value is a dependency of columns."""
    return is_row(value, 2, 2) and is_lot(columns, value[0]) and value[1] in columns and value[1] not in value[0]


def is_number(value):
    """Return whether any value is an integer as in sheets."""
    return is_integer(value) and -GREATEST <= value <= GREATEST


def is_rows(value, most, width):
    """Return whether any value is an ascending row of at most so many rows of so many integers."""
    if not is_row(value, 0, most) or not all([is_row(row, width, width) for row in value]):
        return False
    return all([is_number(number) for row in value for number in row]) and is_ascending(value)


def is_sheet_of(frame, value, most):
    """Return whether any value is a sheet of what surely is a frame (or has no columns), of at most so many rows."""
    return is_rows(value, most, len(frame[0])) and keeps_all(frame, value)


def part_of(columns, lot, row):
    """Return the row of the integers of a row in the columns of a lot."""
    return tuple([number for column, number in zip(columns, row) if column in lot])


def keeps_all(frame, rows):
    """Return whether each two of some rows keep all dependencies of a frame."""
    columns, dependencies = frame
    for lot, column in dependencies:
        at = columns.index(column)
        found = {}
        for row in rows:
            if found.setdefault(part_of(columns, lot, row), row[at]) != row[at]:
                return False
    return True


def lots_of(columns):
    """Return the list of all lots of columns."""
    return [tuple([columns[index] for index in lot]) for lot in all_lots(len(columns))]


def lot_with_told(frame, lot):
    """Return the dict of the columns of a closure, with a telling row for each."""
    told = {column: () for column in lot}
    row = ()
    # Each round takes dependencies whose lots are told by now, so that as many rounds as columns are enough.
    for _ in frame[0]:
        for index, (ahead, column) in enumerate(frame[1]):
            if column not in told and all([one in told for one in ahead]):
                row = row + (index,)
                told[column] = row
    return told


def closed(frame, lot):
    """Return the closure of what surely is a lot."""
    return tuple(sorted(lot_with_told(frame, lot)))


def two_rows(frame, alike):
    """Return the sheet of two rows that are alike just in a lot that is closed."""
    columns = frame[0]
    return (tuple([0 for column in columns]), tuple([0 if column in alike else 1 for column in columns]))
