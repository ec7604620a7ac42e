"""The listings of which grids are ones, and those that told puts leave."""

from puttingback.errors import InvalidNumber, InvalidTold
from puttingback.putrules import MOST_THINGS, MOST_WORTHS, check_grid
from puttingback.values import all_lots, is_below, is_row

MOST_TOLD = 40


def listing_of(things, worths, grid):
    """Return the listing of which a grid is one, or None."""
    check_numbers(things, worths)
    check_grid(things, worths, grid)
    if first_clash(grid) is not None:
        return None
    return (worths, tuple([row.index(thing) for thing, row in enumerate(grid)]))


def clash_of(things, worths, grid):
    """Return any clash of a grid, or None."""
    check_numbers(things, worths)
    check_grid(things, worths, grid)
    return first_clash(grid)


def filling_of(things, worths, told):
    """Return any filling of told puts, or None."""
    check_numbers(things, worths)
    check_told(things, worths, told)
    if first_filling_bar(things, worths, told) is not None:
        return None
    choices = worths_left(things, worths, told)
    holders = holders_of(worths, choices)
    row = [holders.get(thing, choices[thing][0]) for thing in range(things)]
    return (worths, tuple(row))


def count_fillings(things, worths, told):
    """Return how many fillings of told puts there are."""
    check_numbers(things, worths)
    check_told(things, worths, told)
    if things == 0:
        return 1
    if first_both(told) is not None:
        return 0
    choices = worths_left(things, worths, told)
    count = 0
    # All rows that keep to some worths are counted, and those that leave one of these out are taken away again.
    for lot in all_lots(worths):
        rows = 1
        for left in choices:
            rows *= len([worth for worth in left if worth in lot])
        count += rows if ((worths - len(lot)) & 1) == 0 else -rows
    return count


def filling_bar(things, worths, told):
    """Return anything that bars the fillings of told puts, or None."""
    check_numbers(things, worths)
    check_told(things, worths, told)
    return first_filling_bar(things, worths, told)


def check_numbers(things, worths):
    """Raise InvalidNumber for what is no number of things, or none of worths."""
    if not is_below(things, MOST_THINGS + 1):
        raise InvalidNumber("not a number of things")
    if not is_below(worths, MOST_WORTHS + 1):
        raise InvalidNumber("not a number of worths")


def check_told(things, worths, told):
    """Raise InvalidTold for what is not told puts for so many things and worths."""
    if not is_row(told, 0, MOST_TOLD):
        raise InvalidTold("not a row of told puts")
    for put in told:
        if not is_row(put, 3, 3) or not is_below(put[0], things) or not is_below(put[2], things):
            raise InvalidTold("not a told put")
        if not is_below(put[1], worths):
            raise InvalidTold("not a worth that is put")
    if len({put[:2] for put in told}) < len(told):
        raise InvalidTold("two puts of one worth into one thing")


def first_clash(grid):
    """Return the first thing that no put into it leaves as it is, or the first two puts that clash, or None."""
    for thing, row in enumerate(grid):
        if thing not in row:
            return ("changed", thing)
    first_put = {}
    for thing, row in enumerate(grid):
        for worth, end in enumerate(row):
            if end is not None:
                one, own = first_put.setdefault(end, (thing, worth))
                if own != worth:
                    return ("shared", one, own, thing, worth) if own < worth else ("shared", thing, worth, one, own)
    return None


def first_filling_bar(things, worths, told):
    """Return the first thing found that bars the fillings of told puts, or None."""
    if things == 0:
        return None
    both = first_both(told)
    if both is not None:
        return both
    choices = worths_left(things, worths, told)
    if [] in choices:
        return ("none", choices.index([]))
    for lot in all_lots(worths):
        if len([left for left in choices if [worth for worth in left if worth in lot]]) < len(lot):
            return ("few", lot)
    return None


def first_both(told):
    """Return the first two told puts that demand of one thing what it cannot have, or two worths, or None."""
    for index, put in enumerate(told):
        for before, earlier in enumerate(told[:index]):
            if put[2] == earlier[2] and put[1] != earlier[1] or bars_demand(put, earlier) or bars_demand(earlier, put):
                return ("both", before, index)
    return None


def bars_demand(put, other):
    """Return whether a thing cannot have, by a told put, the worth that another one demands of it."""
    return put[0] == other[2] and put[1] == other[1] and put[2] != put[0]


def worths_left(things, worths, told):
    """Return the list with, for each thing, the list of the worths that it can have."""
    choices = []
    for thing in range(things):
        barred = [put[1] for put in told if put[0] == thing and put[2] != thing]
        needed = [put[1] for put in told if put[2] == thing]
        left = [worth for worth in range(worths) if worth not in barred]
        choices.append([worth for worth in left if worth in needed] if needed else left)
    return choices


def holders_of(worths, choices):
    """Return the dict of one thing for each worth, with this worth, if the choices of things let it."""
    holders = {}
    for worth in range(worths):
        give_holder(worth, choices, holders, {})
    return holders


def give_holder(worth, choices, holders, asked):
    """Give a worth to a thing, which may hand on what it has had, and return whether there is one."""
    for thing, left in enumerate(choices):
        if worth in left and thing not in asked:
            asked[thing] = True
            if thing not in holders or give_holder(holders[thing], choices, holders, asked):
                holders[thing] = worth
                return True
    return False
