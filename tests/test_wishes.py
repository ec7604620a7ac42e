import unittest
from itertools import permutations, product

from puttingback.asides import puts_kept
from puttingback.errors import InvalidShowing, InvalidWishes, TooMany
from puttingback.wishes import is_wish_clash, serving_aside, wish_clash, wished_aside
from tests.asking import Asking
from tests.chance import Chance
from tests.test_asides import G, SHOWINGS, slow_puts
from tests.test_keptputs import tidy_asides
from tests.values import disturbed, odd_values, spoiled

MORE = SHOWINGS[::2] + [(2, (0, 1, 0, 1)), (3, (0, 1, 2, 0, 1)), (2, (0, 0, 0, 1, 1, 1)), (3, (0, 1, 2, 2, 1, 0)),
                        (3, (0, 0, 1, 1, 2, 2)), (1, (0, 0, 0)), (4, (0, 1, 2, 3)), (2, (0, 0, 1))]


def all_wishes(showing):
    """Return all wishes of a showing."""
    row = showing[1]
    return [(thing, row[other], other) for thing in range(len(row)) for other in range(len(row))]


def rows_of_wishes(showing, seed, most):
    """Return rows of wishes: none, each one, and some of several."""
    wishes, chance = all_wishes(showing), Chance(seed)
    rows = [()] + [(wish,) for wish in wishes]
    if wishes:
        rows += [tuple(chance.one_of(wishes) for _ in range(1 + chance.below(5))) for _ in range(most)]
    return rows


def keeps(showing, aside, wishes):
    """Return whether a clear aside keeps wishes."""
    puts = slow_puts(showing, aside)
    return all(puts[thing][worth] == other for thing, worth, other in wishes)


def slow_is_clash(showing, wishes, clash):
    """Return whether a triple of two things and of a row of indices is a clash, read word by word."""
    thing, other, indices = clash
    if not thing < other or showing[1][thing] != showing[1][other] or len(set(indices)) != len(indices):
        return False
    come = {thing}
    for index in indices:
        ends = (wishes[index][0], wishes[index][2])
        come = {ends[1 - side] for side in (0, 1) for at in come if ends[side] == at}
    return bool(indices) and other in come


class Examples(Asking):
    def test_as_they_stand(self):
        self.assertEqual(wished_aside(G, ((0, 1, 2),)), (0, 1, 0, 2))
        self.assertEqual(wish_clash(G, ((0, 1, 2), (1, 1, 2))), (0, 1, (0, 1)))
        self.assertEqual(serving_aside(G, ((0, 1, 3),)), (0, 1, 1, 0))
        self.assertIsNone(serving_aside((2, (0, 0, 1)), ()))
        self.assertIsNone(serving_aside((3, (0, 0, 1, 1, 2, 2)), ((0, 1, 2), (3, 2, 4), (1, 2, 5))))


class Wishes(Asking):
    def test_against_all_asides(self):
        found = {True: 0, False: 0}
        for seed, showing in enumerate(MORE):
            clear = [aside for aside in tidy_asides(len(showing[1])) if slow_puts(showing, aside) is not None]
            for wishes in rows_of_wishes(showing, seed, 30):
                keeping = [aside for aside in clear if keeps(showing, aside, wishes)]
                aside, clash = wished_aside(showing, wishes), wish_clash(showing, wishes)
                # Some clear aside keeps all wishes just if these have no clash.
                self.says(bool(keeping), clash is None)
                self.says(bool(keeping), aside is not None)
                found[clash is None] += 1
                if clash is None:
                    # Of those that keep them it has the most sides.
                    self.assertIn(aside, keeping)
                    self.assertEqual([one for one in keeping if max(one, default=0) >= max(aside, default=0)], [aside])
                else:
                    self.assertTrue(slow_is_clash(showing, wishes, clash), (showing, wishes, clash))
                    self.says(True, is_wish_clash(showing, wishes, clash))
                serving = [aside for aside in keeping if not any(None in row for row in slow_puts(showing, aside))]
                aside = serving_aside(showing, wishes)
                self.assertTrue(aside in serving or aside is None and not serving, (showing, wishes, aside))
        self.assertGreater(min(found.values()), 100)

    def test_is_wish_clash(self):
        wishes = ((0, 1, 2), (1, 1, 2), (1, 0, 1), (3, 0, 1), (0, 1, 2))
        for thing, other in product(range(4), repeat=2):
            for length in range(6):
                for indices in list(permutations(range(5), length)) + [(0, 0), (0, 0, 1), (1, 2, 2), (0, 0, 0, 1), (0, 1, 2, 2)]:
                    expected = slow_is_clash(G, wishes, (thing, other, indices))
                    self.says(expected, is_wish_clash(G, wishes, (thing, other, indices)))
        self.says(True, is_wish_clash(G, wishes, (0, 1, (4, 1))))
        self.says(True, is_wish_clash(G, wishes, (0, 1, (0, 1, 2))))
        self.says(True, is_wish_clash(G, wishes, (2, 3, (1, 3))))
        for value in [(1, 0, (1, 0)), (0, 1, (0,)), (0, 1, (1, 0)), (0, 1, ()), (0, 1, (0, 1, 0)), (0, 2, (0,)), (0, 0, ())]:
            self.says(False, is_wish_clash(G, wishes, value))

    def test_is_wish_clash_at_any_values(self):
        wishes = ((0, 1, 2), (1, 1, 2))
        clash = (0, 1, (0, 1))
        self.says(True, is_wish_clash(G, wishes, clash))
        for value in list(spoiled(clash)) + odd_values():
            self.says(False, is_wish_clash(G, wishes, value))
        for value in disturbed(clash):
            plain = value == clash and not any(isinstance(part, bool) for part in value + value[2])
            self.says(plain, is_wish_clash(G, wishes, value))
        self.says(False, is_wish_clash(G, wishes, (0, 1, (0, 1), 0)))
        self.says(False, is_wish_clash(G, wishes, (0, 1, (0, 2))))
        self.says(False, is_wish_clash(G, wishes, (0, 1, (0, 1, -1))))
        self.says(False, is_wish_clash(G, (), (0, 1, (0,))))

    def test_no_things_and_no_wishes(self):
        for many in (0, 3, 12):
            self.assertEqual([wished_aside((many, ()), ()), wish_clash((many, ()), ()), serving_aside((many, ()), ())],
                             [(), None, ()])
        self.assertEqual([wished_aside(G, ()), wish_clash(G, ())], [(0, 1, 2, 3), None])
        self.assertIsNone(serving_aside((3, (0, 1)), ()))

    def test_greatest(self):
        showing = (12, tuple(thing % 12 for thing in range(40)))
        wishes = tuple((thing, (thing + 1) % 12, thing + 1) for thing in range(39) if thing % 12 != 11)
        wishes += tuple((thing, thing % 12, thing) for thing in range(40 - len(wishes)))
        self.assertEqual(wished_aside(showing, wishes), tuple(thing // 12 for thing in range(40)))
        chain = tuple((thing, (thing + 1) % 12, thing + 1) for thing in range(39))
        clash = wish_clash(showing, chain)
        self.assertTrue(slow_is_clash(showing, chain, clash))
        self.says(True, is_wish_clash(showing, chain, (0, 36, tuple(range(36)))))
        # Two things that a long row of wishes joins, told in an order that is not that of the row.
        mixed = tuple(chain[index * 7 % 39] for index in range(39))
        self.assertTrue(slow_is_clash(showing, mixed, wish_clash(showing, mixed)))
        # Wishes that join a thing with itself, or two things once more, before those that lead on.
        row = (0, 1, 2, 3, 4, 5, 6, 0)
        again = tuple((thing, row[thing], thing) for thing in range(8))
        ahead = tuple((thing, row[thing + 1], thing + 1) for thing in range(6, -1, -1))
        back = tuple((thing + 1, row[thing], thing) for thing in range(6, -1, -1))
        for wishes in (again + ahead, again + back, again + ahead + back, again + back + ahead, ahead + back + again):
            self.assertTrue(slow_is_clash((7, row), wishes, wish_clash((7, row), wishes)))

    def test_twelve_things(self):
        for many in (1, 2, 3, 4, 6, 12):
            showing, chance = (many, tuple(thing % many for thing in range(12))), Chance(many)
            for _ in range(40):
                # A wish for each of some pairs of a serving aside: these are kept by it at least.
                sides = [0] * 12
                for worth in range(many):
                    order = sorted(range(12 // many), key=lambda at: chance.below(1000))
                    for at, side in enumerate(order):
                        sides[at * many + worth] = side
                pairs = [(one, other) for one in range(12) for other in range(12) if sides[one] == sides[other]]
                wishes = tuple((one, other % many, other) for one, other in [chance.one_of(pairs) for _ in range(8)])
                aside = serving_aside(showing, wishes)
                self.assertNotIn(None, sum(puts_kept(showing, aside), ()))
                self.assertTrue(keeps(showing, aside, wishes))
                self.assertIn(aside, [tuple(list(dict.fromkeys(aside)).index(side) for side in aside)])
        # Joined things that are too many for the lots, which only a search through all ways shows.
        showing = (2, (0,) * 6 + (1,) * 6)
        self.assertIsNone(serving_aside(showing, ((0, 1, 6), (1, 1, 6))))
        showing = (3, (0, 0, 0, 0, 1, 1, 1, 1, 2, 2, 2, 2))
        self.assertIsNone(serving_aside(showing, ((0, 1, 4), (5, 2, 8), (1, 2, 9), (2, 1, 6), (7, 2, 10), (3, 2, 11))))


class Errors(Asking):
    def test_order(self):
        good = ((0, 1, 2), (1, 1, 2))
        for function, more in ((wished_aside, ()), (wish_clash, ()), (is_wish_clash, (None,)), (serving_aside, ())):
            for value in [(13, ()), (2, [0]), (2, (2,)), None]:
                self.refused(InvalidShowing, function, value, None, *more)
            bad = [((0, 1, 4),), ((4, 1, 2),), ((0, 0, 2),), ((0, 2, 2),), ((0, -1, 3),), ((-1, 1, 3),), ((0, 1, -1),),
                   ((0, 1),), ((0, 1, 2, 0),), (0, 1, 2), good + (None,), [(0, 1, 2)], ([0, 1, 2],), ((0, 1, 2),) * 41]
            for value in bad + [value for value in odd_values() if value != ()] + list(spoiled(good)):
                self.refused(InvalidWishes, function, G, value, *more)
        self.assertEqual(wished_aside(G, ((0, 1, 2),) * 40), (0, 1, 0, 2))

    def test_thirteen_things(self):
        showing = (13 - 1, tuple(range(12)) + (0,))
        self.too_many(12, serving_aside, showing, ())
        self.too_many(12, serving_aside, (1, (0,) * 40), ((0, 0, 1),))
        self.refused(InvalidWishes, serving_aside, showing, ((0, 1, 2),))
        self.assertEqual(serving_aside((12, tuple(range(12))), ()), (0,) * 12)
        self.assertEqual(serving_aside((1, (0,) * 12), ()), tuple(range(12)))
        self.assertTrue(issubclass(TooMany, ValueError))


if __name__ == "__main__":
    unittest.main()
