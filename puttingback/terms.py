"""Terms over kinds, and the kinds of their worths."""

from puttingback.errors import InvalidPath, InvalidTerm
from puttingback.kinds import check_kind, is_kind
from puttingback.values import (is_ascending, is_below, is_built_small, is_integer, is_numbers_row,
                                is_worded_row)

MOST_DEPTH = 8
MOST_SIZE = 40

# How long the row of a term is that begins with each word.
LENGTHS = {"whole": 1, "part": 2, "fixed": 3, "table": 3, "parts": 2, "then": 3, "sum": 3, "less": 3, "test": 5}


def is_term(kind, value):
    """Return whether any value is a term over a kind."""
    check_kind(kind)
    return is_term_over(kind, value)


def kind_shown(kind, term):
    """Return the kind of the worths of a term."""
    check_kind(kind)
    check_term(kind, term)
    return worths_kind(kind, term)


def term_at(kind, term, path):
    """Return the pair of the term to which a path leads, and of the kind over which it stands."""
    check_kind(kind)
    check_term(kind, term)
    if not isinstance(path, tuple):
        raise InvalidPath("not a row of places")
    for place in path:
        inner = inner_terms(term)
        if not is_below(place, len(inner)):
            raise InvalidPath("no term stands at this place")
        if term[0] == "then" and place == 1:
            kind = worths_kind(kind, term[1])
        term = inner[place]
    return (term, kind)


def check_term(kind, term):
    """Raise InvalidTerm for what is no term over a kind."""
    if not is_term_over(kind, term):
        raise InvalidTerm("not a term over the kind")


def is_term_over(kind, value):
    """Return whether any value is a term over what surely is a kind."""
    return is_built_small(value, inner_terms, MOST_DEPTH, MOST_SIZE) and worths_kind(kind, value) is not None


def inner_terms(value):
    """Return the list of what stands as terms directly in any value, or None for what is not built as a term."""
    if not isinstance(value, tuple) or not value or not isinstance(value[0], str):
        return None
    word = value[0]
    if len(value) != LENGTHS.get(word, 0):
        return None
    if word == "parts":
        return [pair[1] for pair in value[1]] if is_worded_row(value[1], 1, 6) else None
    if word in ("then", "sum", "less"):
        return [value[1], value[2]]
    if word == "test":
        return [value[1], value[3], value[4]]
    return []


def worths_kind(kind, value):
    """Return the kind of the worths of what surely is built as a term, or None if it is no term over the kind."""
    word = value[0]
    if word == "whole":
        return kind
    if word == "part":
        return part_kind(kind, value[1])
    if word == "fixed":
        return fixed_kind(value[1], value[2])
    if word == "table":
        return table_kind(kind, value[1], value[2])
    if word == "parts":
        return parts_kind(kind, value[1])
    one = worths_kind(kind, value[1])
    if one is None:
        return None
    if word == "then":
        return worths_kind(one, value[2])
    if word == "test":
        return tested_kind(kind, one, value)
    return one if one != 0 and is_integer(one) and worths_kind(kind, value[2]) == one else None


def part_kind(kind, word):
    """Return the kind of the part with a word, or None if there is none."""
    if is_integer(kind):
        return None
    for pair in kind:
        if pair[0] == word:
            return pair[1]
    return None


def fixed_kind(number, many):
    """Return the kind of the worths of a fixed number, or None if this is none below it."""
    return many if is_integer(many) and 1 <= many <= 12 and is_below(number, many) else None


def table_kind(kind, row, many):
    """Return the kind of the worths of a table, or None if it is none over the kind."""
    if not is_integer(kind) or not is_below(many, 13):
        return None
    return many if is_numbers_row(row, kind, kind, many) else None


def parts_kind(kind, pairs):
    """Return the kind of the worths of a row of worded terms, or None if one is no term, or this is no kind."""
    shown = []
    for word, inner in pairs:
        worths = worths_kind(kind, inner)
        if worths is None:
            return None
        shown.append((word, worths))
    return tuple(shown) if is_kind(tuple(shown)) else None


def tested_kind(kind, one, value):
    """Return the kind of the worths of a test, or None if it is none over the kind."""
    numbers = value[2]
    if not is_integer(one) or not is_numbers_row(numbers, 0, one, one) or not is_ascending(numbers):
        return None
    two = worths_kind(kind, value[3])
    if two is None:
        return None
    return two if worths_kind(kind, value[4]) == two else None
