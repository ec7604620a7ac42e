import unittest
from itertools import combinations, product

from puttingback.asidelots import finest_split, lacking_row, one_by_one, serving_lots, telling_lots, told_alike
from puttingback.errors import InvalidAside, InvalidShowing
from tests.asking import Asking
from tests.chance import Chance
from tests.test_asides import G, P, Q, slow_clashes
from tests.values import odd_values, spoiled

THIRD = (0, 0, 1, 1)


def samples():
    """Return pairs of a showing and of asides of it, of few things."""
    found = [((many, ()), ((),) * asides) for many in (0, 2) for asides in range(4)]
    for seed in range(500):
        chance = Chance(seed)
        things, asides = 1 + chance.below(6), chance.below(5)
        worths = 1 + chance.below(3)
        row = chance.numbers(things, worths)
        found.append(((worths, row), tuple(chance.numbers(things, 1 + chance.below(4)) for _ in range(asides))))
    # Asides of all rows of some numbers, and nearly all, with asides that others tell.
    for seed in range(200):
        chance = Chance(seed)
        sizes = [1 + chance.below(3) for _ in range(1 + chance.below(3))]
        rows = [row for row in product(*[range(size) for size in sizes]) if chance.below(12) or seed % 2]
        rows = [row + tuple(sum(row[:at + 1]) % 3 for at in range(chance.below(2))) for row in rows[:18]]
        rows = [row for row in rows if len(row) == len(rows[0])]
        row = chance.numbers(len(rows), 2)
        found.append(((2, row), tuple(zip(*rows))))
    return found


SAMPLES = samples()


def lots(many):
    """Return all lots of so many asides."""
    return [lot for length in range(many + 1) for lot in combinations(range(many), length)]


def tells(showing, sides, lot):
    """Return whether a lot tells apart, read word by word."""
    row = showing[1]
    return all(row[one] != row[other] or any(sides[index][one] != sides[index][other] for index in lot)
               for one, other in combinations(range(len(row)), 2))


def lot_aside(sides, lot, things):
    """Return an aside in which two things have the same side if they have it in all asides of a lot."""
    rows = [[sides[index][thing] for index in lot] for thing in range(things)]
    return tuple(rows.index(row) for row in rows)


def all_rows(sides):
    """Return all rows of sides, each of which some thing has in its aside, in their order."""
    return list(product(*[sorted(set(aside)) for aside in sides]))


def rows_had(sides, things):
    """Return the rows of sides that things have."""
    return [tuple(aside[thing] for aside in sides) for thing in range(things)]


def splits(indices):
    """Return all ways to part indices into lots, each an ascending row of lots."""
    if not indices:
        return [()]
    found = []
    for lot in lots(len(indices) - 1):
        first = (indices[0],) + tuple(indices[1:][at] for at in lot)
        found += [tuple(sorted((first,) + rest)) for rest in splits([at for at in indices if at not in first])]
    return found


def split_holds(sides, split, things):
    """Return whether a split holds, read word by word."""
    if things == 0:
        return True
    had = rows_had(sides, things)
    for chosen in product(range(things), repeat=len(split)):
        row = [None] * len(sides)
        for lot, thing in zip(split, chosen):
            for index in lot:
                row[index] = sides[index][thing]
        if tuple(row) not in had:
            return False
    return True


class Examples(Asking):
    def test_as_they_stand(self):
        self.assertEqual([telling_lots(G, (P, Q, THIRD)), serving_lots(G, (P, THIRD)), told_alike(G, ())],
                         [[(0,), (1,)], [(0,)], (0, 1)])
        self.assertEqual([one_by_one(G, (P, THIRD)), lacking_row(G, (P, Q, THIRD)), finest_split(G, (P, Q, THIRD)),
                          finest_split(G, (P, Q))], [True, (5, 0, 1), ((0, 1, 2),), ((0,), (1,))])


class Lots(Asking):
    def test_telling_lots(self):
        for showing, sides in SAMPLES:
            telling = [lot for lot in lots(len(sides)) if tells(showing, sides, lot)]
            least = [lot for lot in telling if not any(set(less) < set(lot) for less in telling)]
            self.assertEqual(telling_lots(showing, sides), sorted(least))

    def test_serving_lots(self):
        unlike = 0
        for showing, sides in SAMPLES:
            things = len(showing[1])
            serving = [lot for lot in lots(len(sides)) if not slow_clashes(showing, lot_aside(sides, lot, things))]
            self.assertEqual(serving_lots(showing, sides), sorted(serving))
            unlike += 0 < len(serving) < 2 ** len(sides)
        self.assertGreater(unlike, 50)

    def test_told_alike(self):
        for showing, sides in SAMPLES:
            alike = [(one, other) for one, other in combinations(range(len(showing[1])), 2)
                     if not tells((showing[0], (showing[1][one], showing[1][other])),
                                  [(aside[one], aside[other]) for aside in sides], range(len(sides)))]
            self.assertEqual(told_alike(showing, sides), min(alike) if alike else None)


class OneByOne(Asking):
    def test_rows_of_sides(self):
        told = {True: 0, False: 0}
        for showing, sides in SAMPLES:
            had = rows_had(sides, len(showing[1]))
            lacking = [row for row in all_rows(sides) if row not in had]
            self.assertEqual(lacking_row(showing, sides), lacking[0] if lacking else None)
            expected = len(set(had)) == len(had) and not lacking
            self.says(expected, one_by_one(showing, sides))
            told[expected] += 1
        self.assertGreater(min(told.values()), 20)

    def test_finest_split(self):
        found = set()
        for showing, sides in SAMPLES:
            if len(sides) <= 3 or len(showing[1]) <= 5:
                things = len(showing[1])
                holding = [split for split in splits(list(range(len(sides)))) if split_holds(sides, split, things)]
                most = max(len(split) for split in holding)
                finest = [split for split in holding if len(split) == most]
                self.assertEqual([finest_split(showing, sides)], finest)
                found.add(finest[0])
        self.assertGreaterEqual(found, {(), ((0,),), ((0, 1),), ((0,), (1,)), ((0, 1, 2),), ((0,), (1, 2)), ((0, 2), (1,)),
                                        ((0, 1), (2,)), ((0,), (1,), (2,))})

    def test_worths_do_not_matter(self):
        for showing, sides in SAMPLES[::3]:
            other = (3, tuple(2 - worth for worth in showing[1]) if showing[0] < 4 else showing[1])
            for function in (one_by_one, lacking_row, finest_split):
                self.assertEqual(function(showing, sides), function(other, sides))

    def test_no_things_and_no_asides(self):
        nothing = (3, ())
        self.assertEqual([telling_lots(nothing, ()), serving_lots(nothing, ()), told_alike(nothing, ()),
                          finest_split(nothing, ())], [[()], [()], None, ()])
        self.assertEqual([telling_lots(nothing, ((), ())), serving_lots(nothing, ((), ())), told_alike(nothing, ((),)),
                          one_by_one(nothing, ((), ())), lacking_row(nothing, ((), ())), finest_split(nothing, ((), ()))],
                         [[()], [(), (0,), (0, 1), (1,)], None, True, None, ((0,), (1,))])
        self.assertEqual([one_by_one((1, (0,)), ()), one_by_one((2, (0, 1)), ()), lacking_row((2, (0, 1)), ()),
                          finest_split((2, (0, 1)), ())], [True, False, None, ()])
        self.assertEqual([telling_lots((2, (0, 1)), ()), serving_lots((2, (0, 1)), ()), serving_lots((3, (0, 1)), ())],
                         [[()], [()], []])
        # Of no asides there is the one row (), which without things is that of none.
        self.assertEqual([one_by_one(nothing, ()), lacking_row(nothing, ())], [False, ()])

    def test_greatest(self):
        showing = (12, tuple(thing % 12 for thing in range(40)))
        sides = tuple(tuple((thing >> bit) & 1 for thing in range(40)) for bit in range(6))
        sides += (tuple(range(36)) + (0, 36, 37, 38), tuple(thing // 12 for thing in range(40)))
        self.assertEqual(telling_lots(showing, sides)[-1], (7,))
        self.assertIn((7,), telling_lots(showing, sides))
        self.assertNotIn((6,), telling_lots(showing, sides))
        self.assertEqual([told_alike(showing, sides), told_alike((1, (0,) * 40), sides[:2])], [None, (0, 4)])
        self.assertEqual(lacking_row(showing, sides), (0, 0, 0, 0, 0, 0, 0, 1))
        self.assertEqual([one_by_one(showing, sides), finest_split(showing, sides)], [False, ((0, 1, 2, 3, 4, 5, 6, 7),)])
        apart = tuple(tuple((thing >> bit) & 1 for thing in range(32)) for bit in range(5))
        alike = apart + apart[:3]
        showing = (1, (0,) * 32)
        self.assertEqual([one_by_one(showing, apart), one_by_one(showing, alike), finest_split(showing, alike)],
                         [True, False, ((0, 5), (1, 6), (2, 7), (3,), (4,))])
        self.assertEqual(serving_lots(showing, alike), sorted(lot for lot in lots(8) if {at % 5 for at in lot} == set(range(5))))
        self.assertEqual(lacking_row((1, (0,) * 40), (tuple(list(range(20)) * 2),) * 8), (0,) * 7 + (1,))


class Errors(Asking):
    def test_order(self):
        for function in (telling_lots, serving_lots, told_alike, one_by_one, lacking_row, finest_split):
            for value in [(13, ()), (2, [0]), (2, (2,)), None]:
                self.refused(InvalidShowing, function, value, None)
            bad = [(P, Q[:3]), (Q + (0,),), [P, Q], (P, None), P, ((0, 1, 1, 40),), ((0, 1, 1, -1),), (P,) * 9]
            for value in bad + [value for value in odd_values() if value != ()] + list(spoiled((P, Q))):
                self.refused(InvalidAside, function, G, value)
        self.assertEqual(len(telling_lots(G, (P,) * 8)), 8)


if __name__ == "__main__":
    unittest.main()
