"""The texts of items, and the items read back from them."""

from puttingback.errors import InvalidItemText
from puttingback.sorts import check_item, check_sort, item_with, many_items
from puttingback.values import is_integer


def item_text(sort, item):
    """Return the text of an item."""
    check_sort(sort)
    check_item(sort, item)
    return text_of(sort, item)


def read_item(sort, text):
    """Return the item of a sort whose text a string is."""
    check_sort(sort)
    if not isinstance(text, str) or many_items(sort) == 0:
        raise InvalidItemText(0)
    item, end = read_from(sort, text, 0)
    if end < len(text):
        raise InvalidItemText(end)
    return item


def text_of(sort, item):
    """Return the text of what surely is an item of a sort."""
    if is_integer(sort):
        return str(item)
    if sort[0] == "row":
        return "(" + " ".join([text_of(inner, part) for inner, part in zip(sort[1], item)]) + ")"
    if sort[0] == "set":
        return "[" + " ".join([text_of(sort[1], member) for member in item[1:]]) + "]"
    inner = [pair[1] for pair in sort[1] if pair[0] == item[0]]
    return item[0] + ":" + text_of(inner[0], item[1])


def read_from(sort, text, at):
    """Return the item of a sort, one with items, whose text stands at an index, and the index behind it.

    Whatever is read before has items, and so has whatever is still to be read: each sign is refused just for what
    can stand at its own place.
    """
    if is_integer(sort):
        return read_integer(sort, text, at)
    if sort[0] == "row":
        return read_row(sort[1], text, at)
    if sort[0] == "set":
        return read_set(sort[1], text, at)
    inner_of = {pair[0] + ":": pair[1] for pair in sort[1] if many_items(pair[1]) > 0}
    choice, at = read_choice(list(inner_of), text, at)
    item, at = read_from(inner_of[choice], text, at)
    return ((choice[:-1], item), at)


def read_integer(limit, text, at):
    """Return the integer below a limit whose figures stand at an index, as many as there can be, and the index behind.

    Figures that begin those of an integer below the limit always are those of one, too.
    """
    figures = [str(number) for number in range(limit)]
    end = at
    while end < len(text) and any([one.startswith(text[at:end + 1]) for one in figures]):
        end += 1
    if end == at:
        raise InvalidItemText(at)
    return (figures.index(text[at:end]), end)


def read_row(sorts, text, at):
    """Return the row of items of some sorts whose text stands at an index, and the index behind it."""
    at = read_sign("(", text, at)
    parts = []
    for inner in sorts:
        if parts:
            at = read_sign(" ", text, at)
        part, at = read_from(inner, text, at)
        parts.append(part)
    return (tuple(parts), read_sign(")", text, at))


def read_set(sort, text, at):
    """Return the set of items of a sort whose text stands at an index, and the index behind it.

    A set is of few items, so that it is looked which ones can still come: the last one is followed by none.
    """
    members = [item_with(sort, number) for number in range(many_items(sort))]
    texts = [text_of(sort, member) for member in members]
    ended = [one + "]" for one in texts]
    going_on = [one + " " for one in texts[:-1]]
    at = read_sign("[", text, at)
    choice, at = read_choice(["]"] + ended + going_on, text, at)
    item = ("",)
    while choice != "]":
        number = texts.index(choice[:-1])
        item = item + (members[number],)
        if choice[-1] == "]":
            return (item, at)
        choice, at = read_choice(ended[number + 1:] + going_on[number + 1:], text, at)
    return (item, at)


def read_sign(sign, text, at):
    """Return the index behind a sign that must stand at an index."""
    return read_choice([sign], text, at)[1]


def read_choice(choices, text, at):
    """Return the one of some strings, none of which begins another one, that stands at an index, and the index behind.

    The sign that is told to go wrong is the first one with which none of them goes on.
    """
    end = at
    while True:
        if end == len(text):
            raise InvalidItemText(end)
        choices = [one for one in choices if one[end - at] == text[end]]
        if not choices:
            raise InvalidItemText(end)
        end += 1
        if len(choices[0]) == end - at:
            return (choices[0], end)
