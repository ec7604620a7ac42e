import unittest
from itertools import product

from puttingback.errors import InvalidGrid, InvalidListing, InvalidPair, InvalidRules
from puttingback.putbehind import grid_joined, listing_joined, loss_behind, rules_behind
from puttingback.putrules import count_ways, rules_of, way_of
from tests.asking import Asking
from tests.samples import every
from tests.test_putrules import RULE_ROWS, WORDS, listings, slow_rules, whole_grids
from tests.values import odd_values


def slow_joined(listing, grid, other, other_grid):
    """Return the listing and the grid joined, read word by word."""
    row = tuple(other[1][listing[1][thing]] for thing in range(len(listing[1])))
    puts = []
    for thing in range(len(row)):
        puts.append([])
        for worth in range(other[0]):
            middle = other_grid[listing[1][thing]][worth]
            puts[-1].append(None if middle is None else grid[thing][middle])
    return (other[0], row), tuple(map(tuple, puts))


def holds_whole(listing, grid):
    """Hold that a listing and a whole grid for it are well made."""
    rules = rules_of(listing, grid)
    return all(end is not None for row in grid for end in row) and rules == slow_rules(listing, grid)


class Examples(Asking):
    def test_as_they_stand(self):
        self.assertEqual([listing_joined((3, (0, 1, 2, 1)), (2, (0, 0, 1))), rules_behind(("again", "twice"), ("twice",))],
                         [(2, (0, 0, 1, 0)), ("twice",)])


class Joined(Asking):
    def test_against_a_slow_reading(self):
        for things, worths, others in [(2, 2, 2), (1, 2, 3), (2, 1, 2), (2, 2, 1), (0, 2, 2)]:
            for listing in listings(things, worths):
                for other in listings(worths, others):
                    grids = list(product(product([*range(things), None], repeat=worths), repeat=things))
                    other_grids = list(product(product([*range(worths), None], repeat=others), repeat=worths))
                    for grid in every(grids, 30):
                        for other_grid in every(other_grids, 30):
                            joined, puts = slow_joined(listing, grid, other, other_grid)
                            self.assertEqual(listing_joined(listing, other), joined)
                            self.assertEqual(grid_joined(listing, grid, other, other_grid), puts)

    def test_no_things(self):
        self.assertEqual([listing_joined((0, ()), (5, ())), grid_joined((0, ()), (), (5, ()), ())], [(5, ()), ()])
        self.assertEqual([listing_joined((2, ()), (1, (0, 0))), grid_joined((2, ()), (), (1, (0, 0)), ((0,), (None,)))],
                         [(1, ()), ()])

    def test_greatest(self):
        listing, other = (8, tuple(thing % 8 for thing in range(12))), (8, tuple(range(8)))
        grid, other_grid = way_of(listing, ("again", "unchanged")), way_of(other, WORDS)
        self.assertEqual([listing_joined(listing, other), grid_joined(listing, grid, other, other_grid)], [listing, grid])


class Rules(Asking):
    def test_rules_behind_against_many_grids(self):
        for things, worths, others in [(1, 1, 1), (2, 1, 1), (1, 2, 1), (1, 2, 2), (2, 2, 1), (2, 2, 2), (3, 1, 1), (3, 2, 1), (2, 3, 1)]:
            first = [(one, grid, slow_rules(one, grid)) for one in listings(things, worths) for grid in whole_grids(things, worths)]
            second = [(one, grid, slow_rules(one, grid)) for one in listings(worths, others) for grid in whole_grids(worths, others)]
            first, second = self.with_rules(first, 150), self.with_rules(second, 150)
            for listing, grid, rules in first:
                for other, other_grid, other_rules in second:
                    joined = slow_rules(*slow_joined(listing, grid, other, other_grid))
                    self.assertLessEqual(set(rules_behind(rules, other_rules)), set(joined))

    def with_rules(self, grids, most):
        """Return some of those grids for each rule row."""
        return [found for rules in RULE_ROWS for found in every([one for one in grids if one[2] == rules], most // 8)]

    def test_losses(self):
        for rules in RULE_ROWS:
            for other_rules in RULE_ROWS:
                behind = rules_behind(rules, other_rules)
                self.assertIn(behind, RULE_ROWS)
                for rule in WORDS:
                    loss = loss_behind(rules, other_rules, rule)
                    self.assertIs(loss is None, rule in behind)
                    if loss is not None:
                        listing, grid, other, other_grid = loss
                        self.assertTrue(holds_whole(listing, grid) and holds_whole(other, other_grid))
                        self.assertEqual(listing[0], len(other[1]))
                        self.assertLessEqual(set(rules), set(slow_rules(listing, grid)))
                        self.assertLessEqual(set(other_rules), set(slow_rules(other, other_grid)))
                        self.assertNotIn(rule, slow_rules(*slow_joined(*loss)))
                        self.assertEqual(listing_joined(listing, other), slow_joined(*loss)[0])

    def test_all_rule_rows(self):
        for rules in RULE_ROWS:
            for other_rules in RULE_ROWS:
                behind = [rule for rule in ("again", "unchanged") if rule in rules and rule in other_rules]
                if "again" in rules and "twice" in rules and "twice" in other_rules:
                    behind.append("twice")
                self.assertEqual(rules_behind(rules, other_rules), tuple(sorted(behind)))

    def test_rules_behind_hold_for_greater_ways(self):
        # Ways of all three rules with more rows than one, in each order of their things.
        for row in [(0, 0, 1, 1), (0, 1, 0, 1), (0, 1, 1, 0)]:
            self.assertEqual(count_ways((2, row), WORDS), 2)
            other, other_grid = (2, row), way_of((2, row), WORDS)
            for listing in listings(4, 4):
                grid = way_of(listing, ("again", "twice"))
                if grid is not None:
                    self.assertIn("twice", slow_rules(*slow_joined(listing, grid, other, other_grid)))


class Errors(Asking):
    def test_listings_and_grids(self):
        G, P = (2, (0, 1)), ((0, 1), (0, 1))
        for value in [(9, ()), (2, [0])] + [value for value in odd_values() if value != (0, ())]:
            self.refused(InvalidListing, listing_joined, value, None)
            self.refused(InvalidListing, listing_joined, value, (5, ()))
            self.refused(InvalidListing, listing_joined, (5, ()), value)
            self.refused(InvalidListing, grid_joined, value, None, None, None)
            self.refused(InvalidListing, grid_joined, G, P, value, None)
        for value in [((0, 1),), ((0, 2), (0, 1)), ((0, True), (0, 1))] + odd_values():
            self.refused(InvalidGrid, grid_joined, G, value, None, None)
            self.refused(InvalidGrid, grid_joined, G, P, G, value)
        self.refused(InvalidPair, listing_joined, G, (2, (0, 1, 1)))
        self.refused(InvalidPair, listing_joined, (0, ()), G)
        self.refused(InvalidPair, grid_joined, G, P, (1, (0,)), ((0,),))
        self.refused(InvalidGrid, grid_joined, G, P, (1, (0,)), ((1,),))

    def test_rules(self):
        for value in [("twice", "again"), ["again"], "again", ("again", "again"), None] + \
                [value for value in odd_values() if value != ()]:
            self.refused(InvalidRules, rules_behind, value, ())
            self.refused(InvalidRules, rules_behind, (), value)
            self.refused(InvalidRules, loss_behind, value, (), "again")
            self.refused(InvalidRules, loss_behind, (), value, "again")
            if value != "again":
                self.refused(InvalidRules, loss_behind, (), (), value)
        self.refused(InvalidRules, loss_behind, (), (), ("again",))
        self.refused(InvalidRules, loss_behind, (), (), "")


if __name__ == "__main__":
    unittest.main()
