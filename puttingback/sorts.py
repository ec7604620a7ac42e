"""Sorts, their items, and the numbers of these."""

from puttingback.errors import InvalidItem, InvalidNumber, InvalidSort, TooMany
from puttingback.kinds import check_kind
from puttingback.values import is_ascending, is_below, is_built_small, is_integer, is_row, is_worded_row

MOST_DEPTH = 6
MOST_SIZE = 40
MOST_MEMBERS = 64


def is_sort(value):
    """Return whether any value is a sort."""
    return is_built_small(value, inner_sorts, MOST_DEPTH, MOST_SIZE) and has_small_sets(value)


def is_item(sort, value):
    """Return whether any value is an item of a sort."""
    check_sort(sort)
    return is_item_in(sort, value)


def count_items(sort):
    """Return how many items a sort has."""
    check_sort(sort)
    return many_items(sort)


def item_number(sort, item):
    """Return the number of an item."""
    check_sort(sort)
    check_item(sort, item)
    return number_in(sort, item)


def item_at(sort, number):
    """Return the item with a number."""
    check_sort(sort)
    if not is_below(number, many_items(sort)):
        raise InvalidNumber("not the number of an item of the sort")
    return item_with(sort, number)


def kind_sort(kind):
    """Return the sort of a kind."""
    check_kind(kind)
    if sort_size(kind) > MOST_SIZE:
        raise TooMany(MOST_SIZE)
    return sort_like(kind)


def check_sort(sort):
    """Raise InvalidSort for what is no sort."""
    if not is_sort(sort):
        raise InvalidSort("not a sort")


def check_item(sort, item):
    """Raise InvalidItem for what is no item of a sort."""
    if not is_item_in(sort, item):
        raise InvalidItem("not an item of the sort")


def inner_sorts(value):
    """Return the list of what stands as sorts directly in any value, or None for what is not built as a sort."""
    if is_integer(value):
        return [] if 0 <= value <= 30 else None
    if not is_row(value, 2, 2):
        return None
    if value[0] == "row" and is_row(value[1], 0, 6):
        return list(value[1])
    if value[0] == "one" and is_worded_row(value[1], 0, 4):
        return [pair[1] for pair in value[1]]
    return [value[1]] if value[0] == "set" else None


def has_small_sets(value):
    """Return whether no set in what surely is built as a sort is of a sort with too many items."""
    for inner in inner_sorts(value):
        if not has_small_sets(inner):
            return False
    # The sets within it are small by now, so that its items can be counted.
    return is_integer(value) or value[0] != "set" or many_items(value[1]) <= MOST_MEMBERS


def is_item_in(sort, value):
    """Return whether any value is an item of what surely is a sort."""
    if is_integer(sort):
        return is_below(value, sort)
    if sort[0] == "row":
        if not is_row(value, len(sort[1]), len(sort[1])):
            return False
        return all([is_item_in(inner, part) for inner, part in zip(sort[1], value)])
    if sort[0] == "set":
        return is_set_item(sort[1], value)
    if not is_row(value, 2, 2):
        return False
    for word, inner in sort[1]:
        if value[0] == word:
            return is_item_in(inner, value[1])
    return False


def is_set_item(sort, value):
    """Return whether any value is the row of "" and, behind it, of items of a sort, ascending."""
    if not is_row(value, 1, MOST_MEMBERS + 1) or value[0] != "":
        return False
    return all([is_item_in(sort, member) for member in value[1:]]) and is_ascending(value[1:])


def many_items(sort):
    """Return how many items there are of what surely is a sort."""
    if is_integer(sort):
        return sort
    if sort[0] == "set":
        return 1 << many_items(sort[1])
    if sort[0] == "one":
        return sum([many_items(pair[1]) for pair in sort[1]])
    many = 1
    for inner in sort[1]:
        many *= many_items(inner)
    return many


def number_in(sort, item):
    """Return the number of what surely is an item of a sort."""
    if is_integer(sort):
        return item
    if sort[0] == "set":
        return set_number(many_items(sort[1]), [number_in(sort[1], member) for member in item[1:]])
    number = 0
    if sort[0] == "row":
        for inner, part in zip(sort[1], item):
            number = number * many_items(inner) + number_in(inner, part)
        return number
    for word, inner in sort[1]:
        if word < item[0]:
            number += many_items(inner)
        elif word == item[0]:
            number += number_in(inner, item[1])
    return number


def set_number(many, members):
    """Return the number of the set of some ascending numbers below an integer, among all such sets."""
    number = 0
    least = 0
    for member in members:
        # Ahead of it are the set that ends here, and all sets that go on with a lesser member.
        number += 1 + (1 << (many - least)) - (1 << (many - member))
        least = member + 1
    return number


def item_with(sort, number):
    """Return the item of a sort with what surely is the number of one."""
    if is_integer(sort):
        return number
    if sort[0] == "set":
        members = set_members(many_items(sort[1]), number)
        return ("",) + tuple([item_with(sort[1], member) for member in members])
    if sort[0] == "one":
        return one_with(sort[1], number)
    parts = []
    for inner in reversed(sort[1]):
        number, part = divmod(number, many_items(inner))
        parts.append(item_with(inner, part))
    return tuple(parts[::-1])


def one_with(pairs, number):
    """Return the item of a sort of some words with what surely is the number of one."""
    ordered = sorted(pairs, key=lambda pair: pair[0])
    at = 0
    while number >= many_items(ordered[at][1]):
        number -= many_items(ordered[at][1])
        at += 1
    return (ordered[at][0], item_with(ordered[at][1], number))


def set_members(many, number):
    """Return the list of the ascending numbers below an integer whose set has a number."""
    members = []
    member = 0
    while number > 0:
        number -= 1
        while number >= 1 << (many - 1 - member):
            number -= 1 << (many - 1 - member)
            member += 1
        members.append(member)
        member += 1
    return members


def sort_size(kind):
    """Return of how many sorts the sort of a kind consists."""
    return 1 if is_integer(kind) else 1 + sum([sort_size(pair[1]) for pair in kind])


def sort_like(kind):
    """Return the sort of what surely is a kind."""
    return kind if is_integer(kind) else ("row", tuple([sort_like(pair[1]) for pair in kind]))
