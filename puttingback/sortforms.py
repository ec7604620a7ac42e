"""Plain sorts, and what one sort has of another one."""

from puttingback.errors import TooFew
from puttingback.itemtexts import text_of
from puttingback.sorts import check_item, check_sort, item_with, many_items, number_in
from puttingback.values import is_integer


def plain_sort(sort):
    """Return the plain sort of a sort."""
    check_sort(sort)
    return plain_of(sort)


def lies_within(one, other):
    """Return whether each item of the one sort is an item of the other one."""
    check_sort(one)
    check_sort(other)
    return beyond(plain_of(one), plain_of(other)) is None


def least_beyond(one, other):
    """Return the least item of the one sort that is none of the other one, or None."""
    check_sort(one)
    check_sort(other)
    return beyond(plain_of(one), plain_of(other))


def least_common(one, other):
    """Return the least item of both sorts, or None."""
    check_sort(one)
    check_sort(other)
    return common(plain_of(one), plain_of(other))


def led_item(one, other, item):
    """Return the item of the other sort with the number that an item has in the one."""
    check_sort(one)
    check_sort(other)
    check_item(one, item)
    number = number_in(one, item)
    if number >= many_items(other):
        raise TooFew("the other sort has no item with this number")
    return item_with(other, number)


def plain_of(sort):
    """Return the plain sort of what surely is a sort."""
    if many_items(sort) == 0:
        return 0
    if is_integer(sort):
        return sort
    if sort[0] == "row":
        return ("row", tuple([plain_of(inner) for inner in sort[1]]))
    if sort[0] == "set":
        return ("set", plain_of(sort[1]))
    pairs = [(word, plain_of(inner)) for word, inner in sort[1] if many_items(inner) > 0]
    return ("one", tuple(sorted(pairs, key=lambda pair: pair[0])))


def lesser_first(sort, item):
    """Return what tells which items of a sort are lesser ones."""
    text = text_of(sort, item)
    return (len(text), text)


def least_item(sort, items):
    """Return the least one of some items of a sort, or None if there are none."""
    return min(items, key=lambda item: lesser_first(sort, item), default=None)


def least_of(sort):
    """Return the least item of a plain sort that has items."""
    if is_integer(sort):
        return 0
    if sort[0] == "row":
        return tuple([least_of(inner) for inner in sort[1]])
    if sort[0] == "set":
        return ("",)
    return least_item(sort, [(word, least_of(inner)) for word, inner in sort[1]])


def beyond(one, other):
    """Return the least item of a plain sort that is none of another one, or None."""
    if one == 0:
        return None
    if is_integer(one) and is_integer(other):
        return None if one <= other else other
    if is_integer(one) or is_integer(other) or one[0] != other[0]:
        return least_of(one)
    if one[0] == "row":
        return beyond_row(one, other)
    if one[0] == "one":
        return beyond_one(one, other)
    # The shortest set that is beyond has one member alone, which is beyond.
    member = beyond(one[1], other[1])
    return None if member is None else ("", member)


def beyond_row(one, other):
    """Return the least row of a plain sort of rows that is none of another one, or None.

    In the least one a single part that is beyond is enough; all others are the least ones of their sorts.
    """
    least = least_of(one)
    if len(one[1]) != len(other[1]):
        return least
    items = []
    for index, inner in enumerate(one[1]):
        part = beyond(inner, other[1][index])
        if part is not None:
            items.append(least[:index] + (part,) + least[index + 1:])
    return least_item(one, items)


def beyond_one(one, other):
    """Return the least item of a plain sort of words that is none of another one, or None."""
    inner_of = {word: inner for word, inner in other[1]}
    found = [(word, beyond(inner, inner_of.get(word, 0))) for word, inner in one[1]]
    return least_item(one, [item for item in found if item[1] is not None])


def common(one, other):
    """Return the least item of two plain sorts, or None."""
    if one == 0 or other == 0:
        return None
    if is_integer(one) and is_integer(other):
        return 0
    if is_integer(one) or is_integer(other) or one[0] != other[0]:
        return None
    if one[0] == "row":
        return common_row(one, other)
    if one[0] == "set":
        return ("",)
    inner_of = {word: inner for word, inner in other[1]}
    found = [(word, common(inner, inner_of.get(word, 0))) for word, inner in one[1]]
    return least_item(one, [item for item in found if item[1] is not None])


def common_row(one, other):
    """Return the least row of two plain sorts of rows, or None."""
    if len(one[1]) != len(other[1]):
        return None
    parts = [common(inner, other_inner) for inner, other_inner in zip(one[1], other[1])]
    return None if None in parts else tuple(parts)
