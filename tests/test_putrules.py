import unittest
from itertools import combinations, product
from math import factorial

from puttingback.errors import InvalidGrid, InvalidListing, InvalidRules
from puttingback.putrules import bar_of, count_ways, rules_of, way_of
from tests.asking import Asking
from tests.values import disturbed, odd_values, spoiled

G = (2, (0, 0, 1))
WORDS = ("again", "twice", "unchanged")
RULE_ROWS = [row for many in range(4) for row in combinations(WORDS, many)]


def listings(things, worths):
    """Return all listings of so many things and worths."""
    return [(worths, row) for row in product(range(worths), repeat=things)]


def whole_grids(things, worths):
    """Return all grids without None."""
    return product(product(range(things), repeat=worths), repeat=things)


def slow_rules(listing, grid):
    """Return the rules of a grid, read word by word."""
    worths, row = listing
    puts = [(thing, worth) for thing in range(len(row)) for worth in range(worths)]
    kept = []
    if all(grid[t][w] is None or row[grid[t][w]] == w for t, w in puts):
        kept.append("again")
    if all(grid[t][w] is None or all(grid[grid[t][w]][x] == grid[t][x] for x in range(worths)) for t, w in puts):
        kept.append("twice")
    if all(grid[t][row[t]] == t for t in range(len(row))):
        kept.append("unchanged")
    return tuple(kept)


def is_bar(listing, rules, bar):
    """Return whether something is a bar, read word by word."""
    worths, row = listing
    if not row or "again" not in rules:
        return False
    if bar[0] == "unshown":
        return bar[1] in range(worths) and bar[1] not in row
    return rules == WORDS and bar[0] == "unlike" and 0 <= bar[1] < bar[2] < worths and \
        row.count(bar[1]) != row.count(bar[2])


def backtracked(things, worths, rules, row):
    """Return how many ways there are with twice, found row by row."""
    def fits(grid):
        for thing, ends in enumerate(grid):
            for worth, end in enumerate(ends):
                if end < len(grid) and grid[end] != ends or "again" in rules and row[end] != worth:
                    return False
            if "unchanged" in rules and ends[row[thing]] != thing:
                return False
        return True

    def count(grid):
        if not fits(grid):
            return 0
        if len(grid) == things:
            return 1
        return sum(count(grid + (ends,)) for ends in product(range(things), repeat=worths))

    return count(())


class Examples(Asking):
    def test_as_they_stand(self):
        self.assertEqual([rules_of(G, ((0, 2), (1, 2), (0, 2))), count_ways(G, ("again", "unchanged")),
                          bar_of(G, ("again", "twice", "unchanged"))], [("again", "unchanged"), 2, ("unlike", 0, 1)])
        self.assertEqual([count_ways((2, (0, 0, 1, 1)), rules)
                          for rules in ((), ("twice",), ("again", "twice"), ("twice", "unchanged"), WORDS)],
                         [65536, 125, 6, 7, 2])


class RulesOfGrids(Asking):
    def test_against_a_slow_reading(self):
        for things, worths in [(1, 1), (1, 3), (2, 1), (2, 2), (3, 1), (2, 3)]:
            for listing in listings(things, worths):
                ends = list(range(things)) + [None]
                for grid in product(product(ends, repeat=worths), repeat=things):
                    self.assertEqual(rules_of(listing, grid), slow_rules(listing, grid))

    def test_no_things(self):
        for worths in range(9):
            self.assertEqual(rules_of((worths, ()), ()), WORDS)

    def test_refused_puts(self):
        self.assertEqual(rules_of((2, (0, 1)), ((0, None), (None, 1))), WORDS)
        self.assertEqual(rules_of((2, (0, 1)), ((None, None), (None, None))), ("again", "twice"))
        # The put into what comes is let, the one into the thing itself is not.
        self.assertEqual(rules_of((2, (0, 0)), ((0, None), (0, 1))), ())


class Ways(Asking):
    def test_counts_against_all_grids(self):
        for things, worths in [(0, 0), (0, 3), (1, 1), (1, 8), (2, 1), (2, 2), (2, 3), (2, 4), (3, 1), (3, 2), (4, 1), (5, 1)]:
            for listing in listings(things, worths):
                counts = dict.fromkeys(RULE_ROWS, 0)
                for grid in whole_grids(things, worths):
                    kept = slow_rules(listing, grid)
                    for rules in RULE_ROWS:
                        counts[rules] += set(rules) <= set(kept)
                for rules in RULE_ROWS:
                    self.assertEqual(count_ways(listing, rules), counts[rules], (listing, rules))

    def test_counts_with_twice_against_a_slow_search(self):
        for listing in [(3, (0, 1, 2)), (3, (0, 0, 1)), (2, (0, 0, 1, 1)), (2, (0, 1, 1, 1)), (2, (0, 0, 0, 0)), (3, (0, 0, 0)),
                        (2, (1, 0, 1, 0, 0)), (3, (2, 0, 1, 1)), (3, (0, 0, 2, 2)), (1, (0,) * 5), (4, (0, 1, 3))]:
            for rules in RULE_ROWS:
                if "twice" in rules and ("again" in rules or "unchanged" in rules or len(listing[1]) < 5):
                    slow = backtracked(len(listing[1]), listing[0], rules, listing[1])
                    self.assertEqual(count_ways(listing, rules), slow, (listing, rules))

    def test_ways_have_the_rules_and_there_are_none_just_if_a_bar_is(self):
        for things, worths in [(0, 0), (0, 8), (1, 1), (1, 2), (2, 2), (3, 2), (3, 3), (4, 2), (4, 3), (6, 2), (6, 3), (5, 5)]:
            for listing in listings(things, worths):
                for rules in RULE_ROWS:
                    way, bar, count = way_of(listing, rules), bar_of(listing, rules), count_ways(listing, rules)
                    self.assertEqual((way is None, count == 0), (bar is not None, bar is not None))
                    if way is None:
                        self.assertTrue(is_bar(listing, rules, bar))
                    else:
                        self.assertLessEqual(set(rules), set(slow_rules(listing, way)))
                        self.assertTrue(all(end is not None for row in way for end in row))
                        self.assertLessEqual(set(rules), set(rules_of(listing, way)))

    def test_bars(self):
        self.assertEqual([bar_of((3, (0, 2)), rules) for rules in RULE_ROWS],
                         [("unshown", 1) if "again" in rules else None for rules in RULE_ROWS])
        self.assertEqual([bar_of((2, (0, 0, 1)), rules) is None for rules in RULE_ROWS], [True] * 7 + [False])
        self.assertEqual([bar_of((8, ()), rules) for rules in RULE_ROWS], [None] * 8)

    def test_greatest_inputs(self):
        even = (8, tuple(thing % 8 for thing in range(12)))
        self.assertEqual(count_ways(even, ()), 12 ** 96)
        self.assertEqual(count_ways(even, ("again",)), 2 ** 48)
        self.assertEqual(count_ways(even, ("unchanged",)), 12 ** 84)
        # A put has two choices in four classes, but for what is shown of the eight things in these.
        self.assertEqual(count_ways(even, ("again", "unchanged")), 2 ** (48 - 8))
        self.assertEqual(count_ways(even, WORDS), 0)
        self.assertEqual(count_ways((2, (0, 1) * 6), WORDS), factorial(6))
        self.assertEqual(count_ways((4, (0, 1, 2, 3) * 3), WORDS), 6 ** 3)
        # One row for all, with two choices in four classes, or two rows, joined in any order, for the other four.
        self.assertEqual(count_ways(even, ("again", "twice")), 2 ** 4)
        self.assertEqual(count_ways((4, (0, 1, 2, 3) * 2 + (0, 1, 2, 3)), ("again", "twice")),
                         3 ** 4 + 3 ** 4 * 2 ** 3 * 2 ** 4 + 6 ** 3)
        one_each = (8, tuple(range(8)))
        self.assertEqual(count_ways(one_each, WORDS), 1)
        # With one worth, a second put comes to what the first one came to.
        self.assertEqual(count_ways((1, (0,) * 12), ("twice",)), self.idempotents(12))
        for rules in RULE_ROWS:
            for row in [(0,) * 12, (0, 1) * 6, tuple(range(8)) + (0, 1, 2, 3), (7,) * 12]:
                way = way_of((8, row), rules)
                self.assertEqual(way is None, count_ways((8, row), rules) == 0)

    def idempotents(self, things):
        """Return how many rows lead, done twice, to what they lead to once."""
        from math import comb
        return sum(comb(things, ends) * ends ** (things - ends) for ends in range(things + 1))


class Errors(Asking):
    def test_listings(self):
        good = [(0, ()), (8, ()), (8, (7,) * 12), (1, (0,))]
        bad = [(9, ()), (-1, ()), (True, ()), (2, [0]), [2, (0,)], (2, (0,) * 13), (2, (2,)), (2, (-1,)), (2, (True,)), (2,),
               (2, (0,), ()), (0, (0,)), (None, ()), (2, None), (2, 0), ()]
        for listing in good:
            self.assertEqual(count_ways(listing, ()), len(listing[1]) ** (listing[0] * len(listing[1])))
        for listing in bad + odd_values() + list(spoiled((2, (0, 1)))):
            if listing not in [(0, ())] or isinstance(listing[0], bool):
                self.refused(InvalidListing, rules_of, listing, None)
                self.refused(InvalidListing, count_ways, listing, None)
                self.refused(InvalidListing, way_of, listing, None)
                self.refused(InvalidListing, bar_of, listing, None)

    def test_grids(self):
        grid = ((0, 2), (1, None), (0, 2))
        self.assertEqual(rules_of(G, grid), slow_rules(G, grid))
        bad = [(), grid[:2], grid + grid[:1], ((0, 2), (1, 3), (0, 2)), ((0, 2), (1, -1), (0, 2)), ((0, 2), (1,), (0, 2)),
               ((0, 2), (1, 2, 2), (0, 2)), ((0, 2), (1, True), (0, 2)), ((0, 2), (1, "2"), (0, 2)), None, 0]
        for value in bad + odd_values() + list(spoiled(grid)):
            self.refused(InvalidGrid, rules_of, G, value)
        for value in disturbed(grid):
            try:
                rules_of(G, value)
            except InvalidGrid:
                pass

    def test_rule_rows(self):
        bad = [("again", "again"), ("twice", "again"), ["again"], ("agains",), "again", ("",), (None,), ("again", None), None, 0,
               (0,), ((),), ("again", ["twice"]), WORDS + WORDS, (True,), ("a",)]
        for value in bad + [value for value in odd_values() if value != ()]:
            for function in (count_ways, way_of, bar_of):
                self.refused(InvalidRules, function, G, value)


if __name__ == "__main__":
    unittest.main()
