import unittest
from functools import lru_cache
from itertools import combinations

from puttingback.errors import InvalidNet, InvalidWay, NoThings
from puttingback.losses import least_kept, leaves_told, lost_pair, row_back
from tests.asking import Asking
from tests.chance import Chance
from tests.netsamples import (GREATEST, LEAST, LOSING, N, O, RING, many_of, nets, slow_end, slow_row, slow_turning, walk,
                              ways_of)
from tests.samples import at_path, slow_leaves, slow_things
from tests.test_nets import BAD_NETS
from tests.values import odd_values

Q = (((("a", 2), ("b", 2), ("c", 2)), 4), ((0, 1, (0, 1, 1, 0, 2, 3, 3, 2)),))
KINDS = [(("a", 2), ("b", 2), ("c", 2)), (("a", 2), ("b", 3)), (("a", 3), ("b", (("c", 2), ("d", 2)))), (("a", 1), ("b", 2), ("c", 1)), 5,
         (("a", 2), ("b", 2), ("c", 2), ("d", 3)), (("a", 2), ("b", 0)), 1]

# One kind with as many leaves as there can be, of which four have more than one integer.
ONES = tuple((word, 1) for word in "abcdef")
WIDE = tuple((word, tuple((inner, ONES) for inner in "abcdef")) for word in "abcde") + (
    ("f", tuple((inner, tuple((deep, many) for deep, many in zip("abcdef", (1, 2, 1, 2, 2, 3)))) for inner in "a")),)


def losing(many):
    """Return many pairs of a net with steps that lose and of a way of it."""
    found = [(Q, (0, (0,))), (Q, (0, ()))]
    for seed in range(many):
        chance = Chance(seed)
        kinds = (chance.one_of(KINDS), chance.one_of(KINDS), 3)
        steps = []
        for one, other in ((0, 1), (1, 2), (0, 2), (2, 2)):
            things, ends = slow_things(kinds[one]), slow_things(kinds[other])
            few = 1 + chance.below(len(ends)) if ends else 0
            if ends or not things:
                steps.append((one, other, tuple(chance.below(few) for _ in things)))
        net = (kinds, tuple(steps))
        found.append((net, walk(net, chance, 0, 1 + chance.below(3), False)))
        # Few pairs are lost here, so that there can be several least rows of leaves.
        row = list(range(24))
        for _ in range(1 + chance.below(3)):
            row[chance.below(24)] = chance.below(24)
        found.append((((KINDS[5], KINDS[5]), ((0, 1, tuple(row)),)), (0, (0,))))
    return found


ALL = losing(150)


def slow_lost(net, way):
    """Return all lost pairs of numbers, in order."""
    row = slow_row(net, way)
    return [(one, other) for one in range(len(row)) for other in range(len(row)) if one < other and row[one] == row[other]]


@lru_cache
def known_things(kind):
    """Return all things of a kind."""
    return slow_things(kind)


def differ(net, way, pair, leaf):
    """Return whether the things of a pair of numbers differ in a leaf."""
    things = known_things(net[0][way[0]])
    return at_path(things[pair[0]], leaf) != at_path(things[pair[1]], leaf)


def slow_told(net, way):
    """Return the leaves that a way tells."""
    lost = slow_lost(net, way)
    return [leaf for leaf in slow_leaves(net[0][way[0]]) if not any(differ(net, way, pair, leaf) for pair in lost)]


def slow_least(net, way):
    """Return all rows of leaves that are least, by going through all rows of leaves."""
    leaves, lost = slow_leaves(net[0][way[0]]), slow_lost(net, way)
    kept = [set(row) for many in range(len(leaves) + 1) for row in combinations(leaves, many)
            if all(any(differ(net, way, pair, leaf) for leaf in row) for pair in lost)]
    return sorted(tuple(sorted(row)) for row in kept if not any(other < row for other in kept))


class Examples(Asking):
    def test_as_they_stand(self):
        self.assertEqual([leaves_told(Q, (0, (0,))), lost_pair(Q, (0, (0,))), least_kept(Q, (0, (0,))), least_kept(Q, (0, ()))],
                         [[(0,)], (0, 3), [((1,),), ((2,),)], [()]])


class Losses(Asking):
    def good_back(self, net, way, row):
        """Hold that a row back restores all leaves that a way tells."""
        led, told, things = slow_row(net, way), slow_told(net, way), slow_things(net[0][way[0]])
        self.assertTrue(type(row) is tuple and len(row) == many_of(net, slow_end(net, way)))
        self.assertTrue(all(type(number) is int and 0 <= number < len(things) for number in row))
        for number, thing in enumerate(things):
            back = things[row[led[number]]]
            self.assertTrue(all(at_path(back, leaf) == at_path(thing, leaf) for leaf in told))

    def test_against_all_pairs(self):
        told = {"all": 0, "none": 0, "some": 0, "empty": 0, "many": 0}
        for net, way in ALL:
            lost, leaves, least = slow_lost(net, way), slow_told(net, way), slow_least(net, way)
            self.assertEqual(leaves_told(net, way), leaves)
            self.assertEqual(lost_pair(net, way), lost[0] if lost else None)
            self.assertEqual(least_kept(net, way), least)
            if slow_row(net, way):
                self.good_back(net, way, row_back(net, way))
            else:
                self.refused(NoThings, row_back, net, way)
                told["empty"] += 1
            told["all" if not lost else "some" if leaves else "none"] += 1
            told["many"] += len(least) > 1
        self.assertGreater(min(told.values()), 15, told)

    def test_ways_of_turning_nets(self):
        for net in nets(40, True) + [RING, N]:
            for version in range(len(net[0])):
                for way in ways_of(net, version, 2, True)[:40]:
                    self.assertEqual([leaves_told(net, way), lost_pair(net, way), least_kept(net, way)], [slow_leaves(net[0][version]), None, [()]])
                    if slow_row(net, way):
                        self.good_back(net, way, row_back(net, way))

    def test_no_steps_and_no_things(self):
        self.assertEqual([leaves_told(Q, (1, ())), lost_pair(Q, (1, ())), row_back(Q, (1, ())), least_kept(Q, (1, ()))],
                         [[()], None, (0, 1, 2, 3), [()]])
        empty = (((("a", 2), ("b", 0)), 3), ((0, 1, ()),))
        for way in ((0, ()), (0, (0,))):
            self.assertEqual([leaves_told(empty, way), lost_pair(empty, way), least_kept(empty, way)], [[(0,), (1,)], None, [()]])
            self.refused(NoThings, row_back, empty, way)
        self.assertEqual(leaves_told(LEAST, (0, ())), [()])
        # It is the version at which the way begins that must have things.
        self.assertEqual(row_back(empty, (1, ())), (0, 1, 2))

    def test_greatest(self):
        kinds = (WIDE, 1, 12, WIDE)
        self.assertEqual((len(slow_leaves(WIDE)), many_of((kinds, ()), 0)), (186, 24))
        rows = [(0,) * 24, tuple(number % 12 for number in range(24)), tuple(number // 2 for number in range(24)),
                tuple(number % 6 for number in range(24))]
        net = (kinds, ((0, 1, rows[0]), (0, 2, rows[1]), (0, 2, rows[2]), (0, 3, rows[3])))
        many = slow_leaves(WIDE)[-6:]
        for index, row in enumerate(rows):
            way = (0, (index,))
            self.assertEqual(leaves_told(net, way), slow_told(net, way))
            self.assertEqual(lost_pair(net, way), slow_lost(net, way)[0])
            self.good_back(net, way, row_back(net, way))
            # What has one integer alone is in no least row.
            least = [tuple(sorted(row)) for row in least_kept(net, way)]
            self.assertEqual(least, least_kept(net, way))
            self.assertTrue(all(set(row) <= set(many) for row in least))
        self.assertEqual(least_kept(net, (0, (0,))), [tuple(leaf for leaf, ends in zip(many, (1, 2, 1, 2, 2, 3)) if ends > 1)])
        chance = Chance(2)
        for _ in range(5):
            way = walk(LOSING, chance, chance.below(8), 400, False)
            self.assertEqual(leaves_told(LOSING, way), slow_told(LOSING, way))
            self.assertEqual(least_kept(LOSING, way), slow_least(LOSING, way))
            self.good_back(LOSING, way, row_back(LOSING, way))


class Errors(Asking):
    def test_order(self):
        for function in (leaves_told, lost_pair, row_back, least_kept):
            for value in BAD_NETS + odd_values():
                self.refused(InvalidNet, function, value, None)
                self.refused(InvalidNet, function, value, (0, ()))
            for value in [(0, (0, 0)), (0, (-1,)), (0, (0,) * 401), (2, ()), 0] + [one for one in odd_values() if one != (0, ())]:
                self.refused(InvalidWay, function, O, value)
            self.refused(InvalidWay, function, LEAST, (0, (0,)))
        self.assertFalse(slow_turning(O))
        self.assertEqual(len(slow_things(GREATEST)), 24)


if __name__ == "__main__":
    unittest.main()
