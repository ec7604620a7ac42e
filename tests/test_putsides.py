import unittest
from itertools import product
from math import factorial

from puttingback.errors import InvalidListing, InvalidManner, InvalidPair
from puttingback.putsides import count_sides, lacking_pair
from tests.asking import Asking
from tests.test_putrules import listings, slow_rules
from tests.values import odd_values

MANNERS = ("free", "steady", "woven")


def side_ways(listing, other):
    """Return all ways of again and unchanged of a listing that do not change what another one shows."""
    worths, row = listing
    things = range(len(row))
    choices = []
    for thing in things:
        for worth in range(worths):
            ends = [end for end in things if row[end] == worth and other[1][end] == other[1][thing]]
            choices.append([thing] if row[thing] == worth else ends)
    return [tuple(ends[thing * worths:(thing + 1) * worths] for thing in things) for ends in product(*choices)]


def are_woven(one, other):
    """Return whether puts of two worths, by two ways, come to the same in either order."""
    return all(other[one[thing][a]][b] == one[other[thing][b]][a] for thing in range(len(one))
               for a in range(len(one[0])) for b in range(len(other[0])))


def slow_counts(listing, other):
    """Return how many pairs of sides there are, for each manner."""
    ways, other_ways = side_ways(listing, other), side_ways(other, listing)
    steady = [way for way in ways if "twice" in slow_rules(listing, way)]
    other_steady = [way for way in other_ways if "twice" in slow_rules(other, way)]
    woven = [1 for one in steady for two in other_steady if are_woven(one, two)]
    return [len(ways) * len(other_ways), len(steady) * len(other_steady), len(woven)]


class Examples(Asking):
    def test_as_they_stand(self):
        self.assertEqual([count_sides((2, (0, 0, 1, 1)), (2, (0, 1, 0, 1)), "free"),
                          count_sides((2, (0, 0, 1)), (1, (0, 0, 0)), "free"), lacking_pair((2, (0, 0, 1)), (2, (0, 1, 0)))],
                         [1, 2, (1, 1)])


class Sides(Asking):
    def holds(self, listing, other):
        """Hold what is told of two listings beside a slow search, and return the counts."""
        slow = slow_counts(listing, other)
        self.assertEqual([count_sides(listing, other, manner) for manner in MANNERS], slow, (listing, other))
        pair, shown = lacking_pair(listing, other), set(zip(listing[1], other[1]))
        self.assertIs(pair is None, slow[0] > 0)
        if pair is not None:
            self.assertTrue(0 <= pair[0] < listing[0] and 0 <= pair[1] < other[0] and pair not in shown)
        return slow

    def test_against_all_ways(self):
        for things, many in [(0, 4), (1, 3), (2, 3), (3, 3), (4, 2)]:
            for worths, other_worths in product(range(many + 1), repeat=2):
                for listing in listings(things, worths):
                    for other in listings(things, other_worths):
                        self.holds(listing, other)

    def test_greater_cells(self):
        for row, other_row, worths, others in [((0, 1, 0, 1, 0, 1), (0, 0, 0, 0, 0, 0), 2, 1), ((0, 0, 1, 1, 2, 2), (0, 1) * 3, 3, 2),
                                               ((0, 0, 0, 0, 1, 1, 1, 1), (0, 1, 0, 1, 0, 1, 0, 1), 2, 2),
                                               ((0, 0, 0, 1, 1, 1), (0, 1, 1, 0, 1, 1), 2, 2), ((0, 0, 0, 1, 1, 1), (0, 1, 1, 0, 0, 1), 2, 2),
                                               ((0, 1, 2, 0, 1, 2), (0,) * 6, 3, 1), ((0, 0, 1, 1, 1), (0, 1, 0, 1, 1), 2, 2)]:
            slow = self.holds((worths, row), (others, other_row))
            self.assertGreater(slow[0], 0)
            self.holds((others, other_row), (worths, row))

    def test_no_things(self):
        for manner in MANNERS:
            self.assertEqual(count_sides((8, ()), (3, ()), manner), 1)
            self.assertEqual(count_sides((0, ()), (0, ()), manner), 1)
        self.assertEqual([lacking_pair((8, ()), (3, ())), lacking_pair((0, ()), (0, ()))], [None, None])

    def test_greatest_inputs(self):
        one, other = (2, (0,) * 6 + (1,) * 6), (2, (0, 1) * 6)
        self.assertEqual([count_sides(one, other, manner) for manner in MANNERS], [3 ** 24, 6 ** 4, 6 ** 3])
        one, other = (4, (0, 1, 2, 3) * 3), (3, (0,) * 4 + (1,) * 4 + (2,) * 4)
        self.assertEqual([count_sides(one, other, manner) for manner in MANNERS], [1, 1, 1])
        one, other = (1, (0,) * 12), (1, (0,) * 12)
        self.assertEqual([count_sides(one, other, manner) for manner in MANNERS], [1, 1, factorial(12) ** 0])
        one, other = (3, (0, 1, 2) * 4), (1, (0,) * 12)
        self.assertEqual([count_sides(one, other, manner) for manner in MANNERS], [4 ** 24, 24 ** 2, 24 ** 2])
        one, other = (8, tuple(thing % 8 for thing in range(12))), (8, tuple(thing // 2 for thing in range(12)))
        self.assertEqual([count_sides(one, other, manner) for manner in MANNERS], [0, 0, 0])


class Errors(Asking):
    def test_order(self):
        good = (2, (0, 0, 1))
        for value in [(9, ()), (2, [0]), (2, (2,))] + [value for value in odd_values() if value != (0, ())]:
            self.refused(InvalidListing, count_sides, value, None, None)
            self.refused(InvalidListing, count_sides, value, good, "free")
            self.refused(InvalidListing, count_sides, good, value, None)
            self.refused(InvalidListing, lacking_pair, value, None)
            self.refused(InvalidListing, lacking_pair, value, good)
            self.refused(InvalidListing, lacking_pair, good, value)
        for value in ["", "Free", "fre", ("free",), ["free"], None, True, 0] + odd_values():
            self.refused(InvalidManner, count_sides, good, (0, ()), value)
        for manner in MANNERS:
            self.refused(InvalidPair, count_sides, good, (0, ()), manner)
            self.refused(InvalidPair, count_sides, good, (2, (0, 1)), manner)
        self.refused(InvalidPair, lacking_pair, good, (2, (0, 1)))
        self.refused(InvalidPair, lacking_pair, (8, ()), good)


if __name__ == "__main__":
    unittest.main()
