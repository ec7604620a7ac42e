"""Listings and grids behind one another."""

from puttingback.errors import InvalidPair, InvalidRules
from puttingback.putrules import RULES, check_grid, check_listing, check_rules, grid_rules

# Quadruples of a listing, a grid, another listing and another grid. Each one shows for one rule what a grid cannot do
# without: the first ones lose "again", as the one or the other grid is without it, the next two likewise "unchanged",
# the last three "twice", as the one is without it, the other one, or the one without "again". If the grids have these
# rules, the joined one has the rule in question; so no loss is to be had beside these.
LOSSES = (
    ((2, (0, 1)), ((0, 0), (1, 1)), (2, (0, 1)), ((0, 1), (0, 1))),
    ((2, (0, 1)), ((0, 1), (0, 1)), (2, (0, 1)), ((0, 0), (1, 1))),
    ((1, (0, 0)), ((0,), (0,)), (1, (0,)), ((0,),)),
    ((2, (0, 1)), ((0, 1), (0, 1)), (1, (0, 0)), ((0,), (0,))),
    ((2, (0, 0, 1)), ((0, 2), (1, 2), (0, 2)), (2, (0, 1)), ((0, 1), (0, 1))),
    ((3, (0, 1, 2)), ((0, 1, 2), (0, 1, 2), (0, 1, 2)), (2, (0, 0, 1)), ((0, 2), (1, 2), (0, 2))),
    ((4, (0, 1)), ((0, 1, 1, 0), (0, 1, 1, 0)), (2, (0, 0, 1, 1)), ((0, 2), (1, 3), (0, 2), (1, 3))),
)


def listing_joined(listing, other):
    """Return the listing joined of one and of one behind it."""
    check_listing(listing)
    check_listing(other)
    check_behind(listing, other)
    return joined_listing(listing, other)


def grid_joined(listing, grid, other, other_grid):
    """Return the grid joined of those of a listing and of one behind it."""
    check_listing(listing)
    check_grid(len(listing[1]), listing[0], grid)
    check_listing(other)
    check_grid(len(other[1]), other[0], other_grid)
    check_behind(listing, other)
    return joined_grid(listing, grid, other_grid)


def rules_behind(rules, other_rules):
    """Return the row of the rules that grids joined of whole ones with these rules always have."""
    check_rules(rules)
    check_rules(other_rules)
    return tuple([rule for rule in RULES if first_loss(rules, other_rules, rule) is None])


def loss_behind(rules, other_rules, rule):
    """Return any two listings with grids of these rules, such that the joined grid has not a rule, or None."""
    check_rules(rules)
    check_rules(other_rules)
    if rule not in RULES:
        raise InvalidRules("not a rule")
    return first_loss(rules, other_rules, rule)


def check_behind(listing, other):
    """Raise InvalidPair if a listing has not as many things as the one ahead of it has worths."""
    if listing[0] != len(other[1]):
        raise InvalidPair("not as many things as worths")


def joined_listing(listing, other):
    """Return the listing joined of what surely goes behind one another."""
    return (other[0], tuple([other[1][worth] for worth in listing[1]]))


def joined_grid(listing, grid, other_grid):
    """Return the grid joined of what surely goes behind one another."""
    rows = []
    for thing, worth in enumerate(listing[1]):
        rows.append(tuple([None if end is None else grid[thing][end] for end in other_grid[worth]]))
    return tuple(rows)


def first_loss(rules, other_rules, rule):
    """Return the first loss of a rule by grids that have some rules, or None."""
    for listing, grid, other, other_grid in LOSSES:
        if has_rules(listing, grid, rules) and has_rules(other, other_grid, other_rules):
            if not has_rules(joined_listing(listing, other), joined_grid(listing, grid, other_grid), (rule,)):
                return (listing, grid, other, other_grid)
    return None


def has_rules(listing, grid, rules):
    """Return whether a grid has some rules."""
    kept = grid_rules(listing, grid)
    return all([rule in kept for rule in rules])
