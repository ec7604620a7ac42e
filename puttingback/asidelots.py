"""Lots of asides: which of them tell things apart, serve, or can be changed one by one."""

from puttingback.asides import check_aside, check_showing, first_serving_clash
from puttingback.errors import InvalidAside
from puttingback.values import all_lots, is_row, least_lots, tidy_row

MOST_SIDES = 8


def telling_lots(showing, sides):
    """Return the ascending list of the lots that tell apart, but do not without any one of their asides."""
    check_showing(showing)
    check_sides(showing, sides)
    row = showing[1]
    return least_lots(len(sides), lambda lot: count_unlike(row, sides_in(row, sides, lot)) == len(row))


def serving_lots(showing, sides):
    """Return the ascending list of all lots that serve."""
    check_showing(showing)
    check_sides(showing, sides)
    lots = []
    for lot in all_lots(len(sides)):
        aside = tidy_row(sides_in(showing[1], sides, lot))
        if first_serving_clash(showing, aside) is None:
            lots.append(lot)
    return sorted(lots)


def told_alike(showing, sides):
    """Return the first pair of things that all asides and the worths do not tell apart, or None."""
    check_showing(showing)
    check_sides(showing, sides)
    marks = list(zip(showing[1], all_sides(showing, sides)))
    for thing, mark in enumerate(marks):
        if mark in marks[thing + 1:]:
            return (thing, marks.index(mark, thing + 1))
    return None


def one_by_one(showing, sides):
    """Return whether asides can be changed one by one."""
    check_showing(showing)
    check_sides(showing, sides)
    rows = all_sides(showing, sides)
    return len({row for row in rows}) == len(rows) and first_lacking(rows, sides) is None


def lacking_row(showing, sides):
    """Return the first row of sides, each of which some thing has in its aside, that no thing has, or None."""
    check_showing(showing)
    check_sides(showing, sides)
    return first_lacking(all_sides(showing, sides), sides)


def finest_split(showing, sides):
    """Return the finest split of asides that holds."""
    check_showing(showing)
    check_sides(showing, sides)
    lots = all_lots(len(sides))
    counts = {lot: len({row for row in sides_in(showing[1], sides, lot)}) for lot in lots}
    whole = tuple(range(len(sides)))
    # A lot may stand apart if its rows of sides come with all those of the other asides.
    free = [lot for lot in lots
            if counts[lot] * counts[tuple([at for at in whole if at not in lot])] == counts[whole]]
    # What two such lots have in common may, too: so the least one with an aside lies in all others with it.
    least = [[lot for lot in free if at in lot][0] for at in whole]
    return tuple(sorted({lot for lot in least}))


def check_sides(showing, sides):
    """Raise InvalidAside for what is no row of asides of a showing."""
    if not is_row(sides, 0, MOST_SIDES):
        raise InvalidAside("not a row of asides")
    for aside in sides:
        check_aside(showing, aside)


def sides_in(row, sides, lot):
    """Return the list with, for each thing, the row of its sides in the asides of a lot."""
    return [tuple([sides[index][thing] for index in lot]) for thing in range(len(row))]


def all_sides(showing, sides):
    """Return the list with, for each thing, the row of its sides in all asides."""
    return sides_in(showing[1], sides, tuple(range(len(sides))))


def count_unlike(row, rows):
    """Return how many unlike pairs of a worth and of a row of sides there are."""
    return len({pair for pair in zip(row, rows)})


def first_lacking(rows, sides):
    """Return the first row of sides that is none of the rows that things have, or None."""
    numbers = [sorted({side for side in aside}) for aside in sides]
    lacking = ()
    if not is_lacking(rows, numbers, lacking):
        return None
    for choices in numbers:
        begun = [lacking + (side,) for side in choices]
        lacking = [row for row in begun if is_lacking(rows, numbers, row)][0]
    return lacking


def is_lacking(rows, numbers, begun):
    """Return whether some row of sides that begins so is none of the rows that things have."""
    many = 1
    for choices in numbers[len(begun):]:
        many *= len(choices)
    return len({row for row in rows if row[:len(begun)] == begun}) < many
