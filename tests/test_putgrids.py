import unittest
from itertools import combinations, product

from puttingback.errors import InvalidGrid, InvalidNumber, InvalidTold
from puttingback.putgrids import clash_of, count_fillings, filling_bar, filling_of, listing_of
from tests.asking import Asking
from tests.samples import every
from tests.test_putrules import listings, slow_rules
from tests.values import disturbed, odd_values, spoiled


def all_grids(things, worths):
    """Return all grids, those with None too."""
    return product(product(list(range(things)) + [None], repeat=worths), repeat=things)


def is_clash(grid, clash):
    """Return whether something is a clash of a grid, read word by word."""
    if clash[0] == "changed":
        return len(clash) == 2 and clash[1] not in grid[clash[1]]
    word, thing, worth, other, other_worth = clash
    end = grid[thing][worth]
    return word == "shared" and worth < other_worth and end is not None and end == grid[other][other_worth]


def is_filling(things, worths, told, listing):
    """Return whether a listing is a filling: each put of some way has something to come to."""
    row = listing[1]
    puts = {(thing, worth): end for thing, worth, end in told}
    for thing in range(things):
        for worth in range(worths):
            ends = [end for end in range(things) if row[end] == worth]
            ends = [end for end in ends if row[thing] != worth or end == thing]
            ends = [end for end in ends if puts.get((thing, worth), end) == end]
            if not ends:
                return False
    return True


def needed_and_barred(things, told):
    """Return, for each thing, the worths that it must have, and those that it cannot have."""
    needed = [{worth for _, worth, end in told if end == thing} for thing in range(things)]
    return needed, [{worth for at, worth, end in told if at == thing != end} for thing in range(things)]


def is_filling_bar(things, worths, told, bar):
    """Return whether something bars fillings, read word by word."""
    if things == 0:
        return False
    needed, barred = needed_and_barred(things, told)
    if bar[0] == "both":
        if not 0 <= bar[1] < bar[2] < len(told):
            return False
        pair_needed, pair_barred = needed_and_barred(things, [told[bar[1]], told[bar[2]]])
        return any(len(one) > 1 or one & other for one, other in zip(pair_needed, pair_barred))
    can = [{worth for worth in range(worths) if worth not in barred[thing] and needed[thing] <= {worth}}
           for thing in range(things)]
    if bar[0] == "none":
        return not can[bar[1]]
    lot = set(bar[1])
    return bar[0] == "few" and list(bar[1]) == sorted(lot) and lot <= set(range(worths)) and \
        sum(1 for one in can if one & lot) < len(lot)


def all_told(things, worths):
    """Return many told puts: none, each one, each two, and longer rows of them."""
    puts = list(product(range(things), range(worths), range(things)))
    rows = [()] + [(put,) for put in puts] + list(combinations(puts, 2)) + every(list(combinations(puts, 3)), 300)
    rows += every(list(combinations(puts, 4)), 300) + every(list(combinations(puts, 5)), 200)
    rows += [row[::-1] for row in every(rows, 100)]
    return [row for row in rows if len({put[:2] for put in row}) == len(row)]


class Examples(Asking):
    def test_as_they_stand(self):
        self.assertEqual([listing_of(2, 2, ((0, 1), (0, 1))), clash_of(1, 2, ((0, 0),)), clash_of(2, 1, ((1,), (1,)))],
                         [(2, (0, 1)), ("shared", 0, 0, 0, 1), ("changed", 0)])
        self.assertEqual([count_fillings(3, 2, ((0, 1, 2),)), filling_bar(2, 2, ((0, 0, 1), (1, 0, 0))),
                          filling_bar(1, 2, ())], [2, ("both", 0, 1), ("few", (0, 1))])


class ListingsOfGrids(Asking):
    def test_against_all_listings(self):
        for things, worths in [(0, 0), (0, 2), (1, 0), (1, 1), (1, 2), (1, 3), (2, 0), (2, 1), (2, 2), (3, 1), (2, 3)]:
            all_listings = listings(things, worths)
            for grid in all_grids(things, worths):
                found = [listing for listing in all_listings if {"again", "unchanged"} <= set(slow_rules(listing, grid))]
                self.assertLessEqual(len(found), 1)
                self.assertEqual(listing_of(things, worths, grid), found[0] if found else None)
                clash = clash_of(things, worths, grid)
                self.assertIs(clash is None, bool(found), grid)
                self.assertTrue(clash is None or is_clash(grid, clash), (grid, clash))

    def test_more_things(self):
        for grid in every(list(all_grids(3, 2)), 2000):
            listing, clash = listing_of(3, 2, grid), clash_of(3, 2, grid)
            self.assertIs(listing is None, clash is not None)
            self.assertTrue(clash is None or is_clash(grid, clash))
            self.assertTrue(listing is None or {"again", "unchanged"} <= set(slow_rules(listing, grid)))

    def test_no_things_and_no_worths(self):
        self.assertEqual([listing_of(0, worths, ()) for worths in (0, 8)], [(0, ()), (8, ())])
        self.assertEqual([clash_of(0, 8, ()), clash_of(1, 0, ((),)), listing_of(1, 0, ((),))], [None, ("changed", 0), None])
        self.assertEqual(clash_of(12, 0, ((),) * 12)[0], "changed")

    def test_greatest(self):
        row = tuple(thing % 8 for thing in range(12))
        grid = tuple(tuple(thing if row[thing] == worth else worth for worth in range(8)) for thing in range(12))
        self.assertEqual([listing_of(12, 8, grid), clash_of(12, 8, grid)], [(8, row), None])


class Fillings(Asking):
    def test_against_all_listings(self):
        for things, worths in [(0, 0), (0, 2), (1, 0), (1, 1), (1, 2), (2, 1), (2, 2), (2, 3), (3, 1), (3, 2), (3, 3), (4, 2)]:
            all_listings = listings(things, worths)
            for told in all_told(things, worths):
                found = [listing for listing in all_listings if is_filling(things, worths, told, listing)]
                self.assertEqual(count_fillings(things, worths, told), len(found), (things, worths, told))
                filling, bar = filling_of(things, worths, told), filling_bar(things, worths, told)
                if found:
                    self.assertIn(filling, found)
                    self.assertIsNone(bar)
                else:
                    self.assertIsNone(filling)
                    self.assertTrue(is_filling_bar(things, worths, told, bar), (things, worths, told, bar))

    def test_each_sort_of_bar(self):
        self.assertEqual(filling_bar(2, 2, ((0, 0, 1), (1, 1, 1))), ("both", 0, 1))
        self.assertEqual(filling_bar(3, 2, ((0, 0, 1), (2, 1, 1))), ("both", 0, 1))
        self.assertEqual(filling_bar(3, 2, ((0, 0, 1), (2, 0, 0))), ("both", 0, 1))
        self.assertIn(filling_bar(3, 2, ((2, 0, 0), (1, 1, 1), (0, 0, 1))), [("both", 0, 2), ("both", 1, 2)])
        self.assertEqual(filling_bar(3, 2, ((0, 0, 1), (0, 1, 2))), ("none", 0))
        self.assertEqual(filling_bar(3, 3, ((0, 0, 0), (0, 1, 2))), None)
        self.assertEqual(filling_bar(4, 3, ((0, 0, 0), (1, 0, 1), (2, 0, 2))), ("few", (1, 2)))
        self.assertEqual(filling_bar(1, 0, ()), ("none", 0))
        self.assertEqual(filling_bar(0, 8, ()), None)

    def test_greatest_inputs(self):
        onto = sum((-1) ** left * self.choose(8, left) * (8 - left) ** 12 for left in range(9))
        self.assertEqual(count_fillings(12, 8, ()), onto)
        told = tuple((thing, worth, (thing + worth) % 12) for thing in range(5) for worth in range(8))
        self.assertEqual(len(told), 40)
        self.assertEqual(filling_bar(12, 8, told)[0], "both")
        self.assertEqual(count_fillings(12, 8, told), 0)
        row = tuple(thing % 8 for thing in range(12))
        told = tuple((thing, worth, thing if row[thing] == worth else worth) for thing in range(5) for worth in range(8))
        self.assertEqual([filling_bar(12, 8, told), filling_of(12, 8, told)[1][:8]], [None, row[:8]])
        self.assertEqual(count_fillings(12, 8, told), 8 ** 4)

    def test_worths_are_handed_on(self):
        # Things 0 to 2 can have 0 and 1, or one of these, so that worths have to be given out with care.
        told = ((0, 2, 3), (1, 2, 3), (2, 2, 3), (2, 0, 4))
        filling = filling_of(5, 3, told)
        self.assertTrue(is_filling(5, 3, told, filling))
        told = ((0, 1, 4), (0, 2, 5), (1, 2, 5), (1, 0, 3), (2, 0, 3))
        self.assertTrue(is_filling(6, 3, told, filling_of(6, 3, told)))

    def choose(self, many, some):
        """Return in how many ways some of many can be chosen."""
        return len(list(combinations(range(many), some)))


class Errors(Asking):
    def test_numbers_come_first(self):
        for value in (-1, 13, True, False, None, "1", (1,), 10 ** 119):
            for function in (listing_of, clash_of, filling_of, count_fillings, filling_bar):
                self.refused(InvalidNumber, function, value, None, None)
                self.refused(InvalidNumber, function, value, 1, None)
                self.refused(InvalidNumber, function, 1, value, None)
        for function in (listing_of, clash_of, filling_of, count_fillings, filling_bar):
            self.refused(InvalidNumber, function, 12, 9, None)

    def test_grids(self):
        grid = ((0, 1), (None, 1))
        for value in odd_values() + list(spoiled(grid)) + [((0, 2), (0, 1)), ((0, 1),), ((0,), (1,)), grid + grid[:1]]:
            self.refused(InvalidGrid, listing_of, 2, 2, value)
            self.refused(InvalidGrid, clash_of, 2, 2, value)
        self.refused(InvalidGrid, listing_of, 0, 2, None)

    def test_told(self):
        told = ((0, 1, 1), (1, 0, 0))
        bad = [((0, 1),), ((0, 1, 1, 1),), (2,), ((0, 2, 1),), ((2, 0, 0),), ((0, 0, 2),), ((0, 1, 1), (0, 1, 0)), ((-1, 0, 0),),
               ((0, -1, 0),), ((0, 0, -1),), ((0, 1, 1), (0, 1, 1)), ((0, None, 0),), ((0, 0, None),), "", ((0, 0, 0),) * 41]
        for value in bad + [value for value in odd_values() if value != ()] + list(spoiled(told)):
            for function in (filling_of, count_fillings, filling_bar):
                self.refused(InvalidTold, function, 2, 2, value)
        for value in disturbed(told):
            try:
                count_fillings(2, 2, value)
            except InvalidTold:
                pass
        self.refused(InvalidTold, filling_of, 0, 2, ((0, 0, 0),))

    def test_40_told_puts(self):
        told = tuple((thing, worth, thing) for thing in range(12) for worth in range(8))
        self.assertEqual(filling_bar(12, 8, told[:40])[0], "both")
        self.refused(InvalidTold, filling_bar, 12, 8, told[:41])


if __name__ == "__main__":
    unittest.main()
