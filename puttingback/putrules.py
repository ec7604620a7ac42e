"""Listings, grids, rule rows, and the ways of a listing and a rule row."""

from math import comb, factorial

from puttingback.errors import InvalidGrid, InvalidListing, InvalidRules
from puttingback.values import is_ascending, is_below, is_numbers_row, is_row, is_table, power

MOST_THINGS = 12
MOST_WORTHS = 8
RULES = ("again", "twice", "unchanged")


def rules_of(listing, grid):
    """Return the rule row of all rules of a grid."""
    check_listing(listing)
    check_grid(len(listing[1]), listing[0], grid)
    return grid_rules(listing, grid)


def count_ways(listing, rules):
    """Return how many ways there are of a listing and a rule row."""
    check_listing(listing)
    check_rules(rules)
    things = len(listing[1])
    if things == 0:
        return 1
    sizes = class_sizes(listing)
    if "twice" in rules:
        return count_ways_twice(things, sizes, rules)
    ways = 1
    for size in sizes:
        choices = size if "again" in rules else things
        # A put of what is shown has no choice if it must change nothing.
        ways *= power(choices, things - size if "unchanged" in rules else things)
    return ways


def way_of(listing, rules):
    """Return any way of a listing and a rule row, or None."""
    check_listing(listing)
    check_rules(rules)
    if first_bar(listing, rules) is not None:
        return None
    worths, row = listing
    if "again" not in rules or not row:
        return tuple([(thing,) * worths for thing in range(len(row))])
    classes = [things_showing(row, worth) for worth in range(worths)]
    firsts = tuple([alike[0] for alike in classes])
    if "unchanged" not in rules:
        return (firsts,) * len(row)
    if "twice" not in rules:
        return tuple([firsts[:own] + (thing,) + firsts[own + 1:] for thing, own in enumerate(row)])
    places = [classes[own].index(thing) for thing, own in enumerate(row)]
    return tuple([tuple([alike[place] for alike in classes]) for place in places])


def bar_of(listing, rules):
    """Return any bar of a listing for a rule row, or None."""
    check_listing(listing)
    check_rules(rules)
    return first_bar(listing, rules)


def check_listing(listing):
    """Raise InvalidListing for what is no listing."""
    if not is_row(listing, 2, 2) or not is_below(listing[0], MOST_WORTHS + 1):
        raise InvalidListing("not a pair of a number of worths and of a row")
    if not is_numbers_row(listing[1], 0, MOST_THINGS, listing[0]):
        raise InvalidListing("not a row of worths")


def check_grid(things, worths, grid):
    """Raise InvalidGrid for what is no grid for so many things and worths."""
    if not is_table(grid, things, worths):
        raise InvalidGrid("not a thing, or None, for each thing and each worth")


def check_rules(rules):
    """Raise InvalidRules for what is no rule row."""
    if not is_row(rules, 0, len(RULES)) or not all([rule in RULES for rule in rules]) or not is_ascending(rules):
        raise InvalidRules("not a rule row")


def things_showing(row, worth):
    """Return the list of the things of which a worth is shown."""
    return [thing for thing, own in enumerate(row) if own == worth]


def class_sizes(listing):
    """Return the list with, for each worth, of how many things it is shown."""
    return [listing[1].count(worth) for worth in range(listing[0])]


def grid_rules(listing, grid):
    """Return the rule row of all rules of what surely is a grid for a listing."""
    kept = {"again": puts_again(listing, grid), "twice": puts_twice(grid), "unchanged": puts_unchanged(listing, grid)}
    return tuple([rule for rule in RULES if kept[rule]])


def puts_again(listing, grid):
    """Return whether each put that is not refused comes to a thing of which the worth is shown."""
    return all([end is None or listing[1][end] == worth for row in grid for worth, end in enumerate(row)])


def puts_twice(grid):
    """Return whether each put into what a put came to is as the same one into the thing itself."""
    return all([end is None or grid[end] == row for row in grid for end in row])


def puts_unchanged(listing, grid):
    """Return whether what is shown of a thing, put into it, comes to this thing."""
    return all([grid[thing][own] == thing for thing, own in enumerate(listing[1])])


def first_bar(listing, rules):
    """Return the first bar of a listing for a rule row, or None."""
    if "again" not in rules or not listing[1]:
        return None
    sizes = class_sizes(listing)
    if 0 in sizes:
        return ("unshown", sizes.index(0))
    if rules == RULES:
        for worth, size in enumerate(sizes):
            if size != sizes[0]:
                return ("unlike", 0, worth)
    return None


def count_ways_twice(things, sizes, rules):
    """Return how many ways there are, with the rule twice, of things of which worths are shown so often.

    By this rule the things to which a row of puts leads have that very row: so each row has ends of its own, and the
    things that are no ends have any one of these rows.
    """
    if rules == RULES:
        # Each row leads to one thing of each worth, and each thing is an end.
        return power(factorial(sizes[0]), len(sizes) - 1) if min(sizes) == max(sizes) else 0
    if "unchanged" in rules:
        return count_shared_ends(tuple(sizes), {})
    if "again" in rules:
        return count_crossing_ends(things, sizes)
    return count_any_ends(things, len(sizes))


def count_crossing_ends(things, sizes):
    """Return how many ways there are if each row leads to one thing of each worth."""
    ways = 0
    for rows in range(1, min(sizes) + 1):
        # The ends of each worth are chosen, and those of all worths but the first one given to the rows in any order.
        choices = power(factorial(rows), len(sizes) - 1)
        for size in sizes:
            choices *= comb(size, rows)
        ways += choices * power(rows, things - rows * len(sizes))
    return ways


def count_any_ends(things, worths):
    """Return how many ways there are if each row leads to any things."""
    onto = [count_onto(worths, many) for many in range(things + 1)]
    # How many choices of rows there are, so far of none, which have between them so many given ends.
    choices = [1] + [0] * things
    ways = 0
    for rows in range(1, things + 1):
        choices = [sum([comb(ends - 1, many - 1) * onto[many] * choices[ends - many] for many in range(1, ends + 1)])
                   for ends in range(things + 1)]
        ways += sum([comb(things, ends) * choices[ends] * power(rows, things - ends) for ends in range(things + 1)])
    return ways


def count_onto(worths, things):
    """Return how many rows of things, one for each worth, have each of some things."""
    count = 0
    for left_out in range(things + 1):
        rows = comb(things, left_out) * power(things - left_out, worths)
        count += rows if (left_out & 1) == 0 else -rows
    return count


def count_shared_ends(sizes, kept):
    """Return how many ways there are if what is shown is put back without change, keeping what is counted.

    Each thing is an end of its own row, and no two ends of one row have the same worth: so the things are divided
    into lots with at most one thing of each worth, and the puts of all other worths lead to any of the lot.
    """
    sizes = tuple(sorted(sizes))
    if sizes[-1] == 0:
        return 1
    if sizes not in kept:
        ways = 0
        for many, choices, left in lots_of_last(sizes):
            ways += choices * power(many, len(sizes) - many) * count_shared_ends(left, kept)
        kept[sizes] = ways
    return kept[sizes]


def lots_of_last(sizes):
    """Return the list of what lots a thing of the last worth can be in.

    They are told by how many things they have, how often there are such, and how many things of each worth are left.
    """
    lots = [(1, 1, sizes[:-1] + (sizes[-1] - 1,))]
    for worth, size in enumerate(sizes[:-1]):
        if size > 0:
            lots = lots + [(many + 1, choices * size, left[:worth] + (size - 1,) + left[worth + 1:])
                           for many, choices, left in lots]
    return lots
