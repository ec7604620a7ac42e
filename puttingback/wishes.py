"""Wishes of a showing: which of them some kept aside keeps, and the clashes of the others."""

from puttingback.asides import check_showing, is_clear
from puttingback.errors import InvalidWishes, TooMany
from puttingback.values import is_below, is_numbers_row, is_row, tidy_row

MOST_WISHES = 40
MOST_SERVED = 12


def wished_aside(showing, wishes):
    """Return the tidy aside in which just what wishes join has the same side, or None if it is not clear."""
    check_showing(showing)
    check_wishes(showing, wishes)
    aside = joined_sides(showing, wishes)
    return aside if is_clear(showing, aside) else None


def wish_clash(showing, wishes):
    """Return any clash of wishes, or None."""
    check_showing(showing)
    check_wishes(showing, wishes)
    sides = joined_sides(showing, wishes)
    first = {}
    for other, pair in enumerate(zip(showing[1], sides)):
        thing = first.setdefault(pair, other)
        if thing != other:
            return (thing, other, joining_row(wishes, thing, other))
    return None


def is_wish_clash(showing, wishes, value):
    """Return whether any value is a clash of wishes."""
    check_showing(showing)
    check_wishes(showing, wishes)
    row = showing[1]
    if not is_row(value, 3, 3) or not is_below(value[0], len(row)) or not is_below(value[1], len(row)):
        return False
    thing, other, indices = value
    if thing >= other or row[thing] != row[other] or not is_numbers_row(indices, 1, len(wishes), len(wishes)):
        return False
    return len({index for index in indices}) == len(indices) and thing_joined(wishes, thing, indices) == other


def serving_aside(showing, wishes):
    """Return any tidy aside that serves and keeps all wishes, or None."""
    check_showing(showing)
    check_wishes(showing, wishes)
    many, row = showing
    if len(row) > MOST_SERVED:
        raise TooMany(MOST_SERVED)
    sides = joined_sides(showing, wishes)
    sizes = [row.count(worth) for worth in range(many)]
    if not row:
        return ()
    # Each lot has one thing of each worth, if it is to serve.
    if not is_clear(showing, sides) or min(sizes) < max(sizes):
        return None
    parts = [[thing for thing, own in enumerate(sides) if own == side] for side in range(max(sides) + 1)]
    lots = clear_lots(row, sizes[0], [], parts)
    if lots is None:
        return None
    lot_of = {thing: number for number, lot in enumerate(lots) for thing in lot}
    return tidy_row([lot_of[thing] for thing in range(len(row))])


def check_wishes(showing, wishes):
    """Raise InvalidWishes for what is no row of wishes of a showing."""
    if not is_row(wishes, 0, MOST_WISHES) or not all([is_wish(showing, wish) for wish in wishes]):
        raise InvalidWishes("not a row of wishes of the showing")


def is_wish(showing, value):
    """Return whether any value is a wish of a showing."""
    many, row = showing
    if not is_row(value, 3, 3) or not is_below(value[0], len(row)) or not is_below(value[2], len(row)):
        return False
    return is_below(value[1], many) and row[value[2]] == value[1]


def joined_sides(showing, wishes):
    """Return the tidy aside in which just the things have the same side that wishes join, by others too."""
    marks = list(range(len(showing[1])))
    for one, _, other in wishes:
        kept, lost = marks[one], marks[other]
        marks = [kept if mark == lost else mark for mark in marks]
    return tidy_row(marks)


def joining_row(wishes, thing, other):
    """Return a row of unlike indices of wishes that join a thing to another one, which they surely do."""
    ways = {thing: ()}
    while other not in ways:
        for index, (one, _, two) in enumerate(wishes):
            if one in ways and two not in ways:
                ways[two] = ways[one] + (index,)
            elif two in ways and one not in ways:
                ways[one] = ways[two] + (index,)
    return ways[other]


def thing_joined(wishes, thing, indices):
    """Return the thing to which wishes join one, in turn, or None if a wish does not join the thing come to."""
    for index in indices:
        one, _, other = wishes[index]
        if thing == one:
            thing = other
        elif thing == other:
            thing = one
        else:
            return None
    return thing


def clear_lots(row, most, lots, parts):
    """Return a list of lots with all parts of things in them, at most so many and all clear, or None."""
    if not parts:
        return lots
    part, rest = parts[0], parts[1:]
    for at, lot in enumerate(lots):
        if not [thing for thing in lot if row[thing] in [row[other] for other in part]]:
            found = clear_lots(row, most, lots[:at] + [lot + part] + lots[at + 1:], rest)
            if found is not None:
                return found
    return clear_lots(row, most, lots + [part], rest) if len(lots) < most else None
