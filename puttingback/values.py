"""What the modules of the package ask of plain values: integers, words, rows and the like."""

LETTERS = "abcdefghijklmnopqrstuvwxyz"


def is_integer(value):
    """Return whether any value is an integer (True and False are none)."""
    return isinstance(value, int) and not isinstance(value, bool)


def is_below(value, limit):
    """Return whether any value is an integer from 0 to one less than the limit."""
    return is_integer(value) and 0 <= value < limit


def is_row(value, least, most):
    """Return whether any value is a row of so many values."""
    return isinstance(value, tuple) and least <= len(value) <= most


def is_numbers_row(value, least, most, limit):
    """Return whether any value is a row of so many integers from 0 to one less than the limit."""
    return is_row(value, least, most) and all([is_below(number, limit) for number in value])


def is_ascending(row):
    """Return whether values that can be compared ascend, without duplicates."""
    return all([one < other for one, other in zip(row, row[1:])])


def is_word(value):
    """Return whether any value is a word."""
    if not isinstance(value, str) or not 1 <= len(value) <= 8:
        return False
    return all([sign in LETTERS for sign in value])


def is_worded_row(value, least, most):
    """Return whether any value is a row of so many pairs of a word and of something, of unlike words."""
    if not is_row(value, least, most):
        return False
    if not all([is_row(pair, 2, 2) and is_word(pair[0]) for pair in value]):
        return False
    return len({pair[0] for pair in value}) == len(value)


def is_built_small(value, inner_of, depth, size):
    """Return whether any value is built of at most so many parts, at most so deep.

    inner_of tells the list of the parts that stand directly in a value, or None for what is malformed.
    The parts are gone through level by level, as what is shared within a value could unfold to far too many.
    """
    level = [value]
    count = 0
    for _ in range(depth):
        count += len(level)
        if count > size:
            return False
        deeper = []
        for part in level:
            inner = inner_of(part)
            if inner is None:
                return False
            deeper.extend(inner)
        if not deeper:
            return True
        level = deeper
    return False


def power(base, exponent):
    """Return the product of so many times the base."""
    result = 1
    for _ in range(exponent):
        result *= base
    return result
