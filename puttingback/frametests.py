"""Rows of sheets taken by a test, and put back beside the hidden ones."""

from puttingback.errors import InvalidShown, InvalidTest
from puttingback.framelots import MOST_ROWS, check_frame, check_sheet, is_number, is_sheet_of, keeps_all
from puttingback.values import is_ascending, is_built_small, is_row

MOST_DEPTH = 6
MOST_TESTS = 12
MOST_NUMBERS = 4


def taken_rows(frame, test, sheet):
    """Return the sheet of the rows of a sheet that a test takes."""
    check_frame(frame)
    check_test(frame, test)
    check_sheet(frame, sheet)
    return tuple([row for row in sheet if takes(frame[0], test, row)])


def rows_back(frame, test, sheet, shown):
    """Return the ascending row of the hidden rows and of those that are shown, or None for dependencies not kept."""
    check_frame(frame)
    check_test(frame, test)
    check_sheet(frame, sheet)
    check_taken(frame, test, shown)
    hidden = [row for row in sheet if not takes(frame[0], test, row)]
    rows = tuple(sorted(hidden + list(shown)))
    return rows if keeps_all(frame, rows) else None


def columns_asked(frame, test):
    """Return the ascending list of the columns that a test asks."""
    check_frame(frame)
    check_test(frame, test)
    return all_asked(frame, test)


def can_take(frame, test):
    """Return whether what may be shown of rows that a test takes can always be put back beside the hidden ones."""
    check_frame(frame)
    check_test(frame, test)
    asked = all_asked(frame, test)
    return all([column in lot for lot, _ in frame[1] for column in asked])


def clashing_rows(frame, test):
    """Return any pair of a hidden and a taken row that keep not all dependencies together, or None."""
    check_frame(frame)
    check_test(frame, test)
    for lot, told in frame[1]:
        for column in all_asked(frame, test):
            if column not in lot:
                hidden, taken = rows_asking(frame[0], test, column)
                return (hidden, taken) if column == told else clash_made(frame[0], test, told, hidden, taken)
    return None


def check_test(frame, test):
    """Raise InvalidTest for what is no test of the columns of a frame."""
    if not is_built_small(test, lambda part: inner_tests(frame[0], part), MOST_DEPTH, MOST_TESTS):
        raise InvalidTest("not a test of the columns")


def check_taken(frame, test, shown):
    """Raise InvalidShown for what is no sheet of a frame whose rows a test takes."""
    if not is_sheet_of(frame, shown, MOST_ROWS) or not all([takes(frame[0], test, row) for row in shown]):
        raise InvalidShown("not a sheet of rows that are taken")


def inner_tests(columns, value):
    """Return the list of what stands as tests directly in any value, or None for what is not built as a test."""
    if not is_row(value, 2, 3):
        return None
    if value[0] == "not" and len(value) == 2:
        return [value[1]]
    if value[0] in ("and", "or") and len(value) == 3:
        return [value[1], value[2]]
    if value[0] != "is" or len(value) != 3 or value[1] not in columns or not is_row(value[2], 0, MOST_NUMBERS):
        return None
    return [] if all([is_number(number) for number in value[2]]) and is_ascending(value[2]) else None


def takes(columns, test, row):
    """Return whether a test takes a row."""
    word = test[0]
    if word == "is":
        return row[columns.index(test[1])] in test[2]
    if word == "not":
        return not takes(columns, test[1], row)
    if word == "and":
        return takes(columns, test[1], row) and takes(columns, test[2], row)
    return takes(columns, test[1], row) or takes(columns, test[2], row)


def numbers_asked(test, column):
    """Return the list of the rows of numbers for which a test asks in a column."""
    if test[0] == "is":
        return [test[2]] if test[1] == column else []
    found = []
    for part in test[1:]:
        found.extend(numbers_asked(part, column))
    return found


def samples_of(test, column):
    """Return the list of one integer for each way in which integers in a column are told apart by a test."""
    asked = numbers_asked(test, column)
    numbers = [number for row in asked for number in row]
    other = 0
    while other in numbers:
        other += 1
    samples = {}
    for number in numbers + [other]:
        samples.setdefault(tuple([number in row for row in asked]), number)
    return list(samples.values())


def sample_rows(columns, test):
    """Return the list of rows of samples for all columns: of few tests, so that there are at most 64."""
    rows = [()]
    for column in columns:
        rows = [row + (number,) for row in rows for number in samples_of(test, column)]
    return rows


def rows_asking(columns, test, column):
    """Return a hidden and a taken row that are alike in all columns but one, or None if the test does not ask it."""
    at = columns.index(column)
    for row in sample_rows(columns, test):
        if not takes(columns, test, row):
            for number in samples_of(test, column):
                changed = row[:at] + (number,) + row[at + 1:]
                if takes(columns, test, changed):
                    return (row, changed)
    return None


def all_asked(frame, test):
    """Return the ascending list of the columns that what surely is a test asks."""
    return [column for column in frame[0] if rows_asking(frame[0], test, column) is not None]


def clash_made(columns, test, told, hidden, taken):
    """Return a hidden and a taken row that differ in a column that is told, made of such that are alike there."""
    at = columns.index(told)
    changed = taken[:at] + (1 if taken[at] == 0 else 0,) + taken[at + 1:]
    return (hidden, changed) if takes(columns, test, changed) else (changed, taken)
