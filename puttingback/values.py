"""What the modules of the package ask of plain values: integers, words, rows and the like."""

LETTERS = "abcdefghijklmnopqrstuvwxyz"


def is_integer(value):
    """Return whether any value is an integer (True and False are none)."""
    return isinstance(value, int) and not isinstance(value, bool)


def is_below(value, limit):
    """Return whether any value is an integer from 0 to one less than the limit."""
    return is_integer(value) and 0 <= value < limit


def is_row(value, least, most):
    """Return whether any value is a row of so many values."""
    return isinstance(value, tuple) and least <= len(value) <= most


def is_numbers_row(value, least, most, limit):
    """Return whether any value is a row of so many integers from 0 to one less than the limit."""
    return is_row(value, least, most) and all([is_below(number, limit) for number in value])


def is_ascending(row):
    """Return whether values that can be compared ascend, without duplicates."""
    return all([one < other for one, other in zip(row, row[1:])])


def is_word(value):
    """Return whether any value is a word."""
    if not isinstance(value, str) or not 1 <= len(value) <= 8:
        return False
    return all([sign in LETTERS for sign in value])


def is_worded_row(value, least, most):
    """Return whether any value is a row of so many pairs of a word and of something, of unlike words."""
    if not is_row(value, least, most):
        return False
    if not all([is_row(pair, 2, 2) and is_word(pair[0]) for pair in value]):
        return False
    return len({pair[0] for pair in value}) == len(value)


def is_built_small(value, inner_of, depth, size):
    """Return whether any value is built of at most so many parts, at most so deep.

    inner_of tells the list of the parts that stand directly in a value, or None for what is malformed.
    The parts are gone through level by level, as what is shared within a value could unfold to far too many.
    """
    level = [value]
    count = 0
    for _ in range(depth):
        count += len(level)
        if count > size:
            return False
        deeper = []
        for part in level:
            inner = inner_of(part)
            if inner is None:
                return False
            deeper.extend(inner)
        if not deeper:
            return True
        level = deeper
    return False


def is_table(value, things, worths):
    """Return whether any value is a row, for each thing, of the row, for each worth, of a thing or None."""
    if not is_row(value, things, things) or not all([is_row(row, worths, worths) for row in value]):
        return False
    return all([end is None or is_below(end, things) for row in value for end in row])


def all_lots(many):
    """Return the list of all ascending rows of numbers below a limit, those with fewer ones first."""
    lots = [()]
    for number in range(many):
        lots = lots + [lot + (number,) for lot in lots]
    return [lot for _, lot in sorted([(len(lot), lot) for lot in lots])]


def least_lots(many, holds):
    """Return the ascending list of the lots of which a function tells that they hold, but not without any one."""
    held = {lot: holds(lot) for lot in all_lots(many)}
    return sorted([lot for lot in held if held[lot] and not any([held[less] for less in lots_less_one(lot)])])


def lots_less_one(lot):
    """Return the list of the lots that a lot leaves without each one of what it has."""
    return [lot[:at] + lot[at + 1:] for at in range(len(lot))]


def tidy_row(marks):
    """Return the row of numbers that are the same where marks are: 0 for the first one, then the least new ones."""
    numbers = {}
    for mark in marks:
        numbers.setdefault(mark, len(numbers))
    return tuple([numbers[mark] for mark in marks])


def power(base, exponent):
    """Return the product of so many times the base."""
    result = 1
    for _ in range(exponent):
        result *= base
    return result
