import unittest
from itertools import permutations, product

from puttingback.errors import InvalidNet, InvalidPlace, NotTurning, Unlike
from puttingback.likenets import new_numbers, way_parting
from puttingback.nets import is_way
from tests.asking import Asking
from tests.chance import Chance
from tests.machinesamples import shuffled
from tests.netsamples import (LEAST, LOSING, N, O, RING, many_of, nets, places, slow_classes, slow_end_any,
                              slow_lead, slow_row)
from tests.test_nets import BAD_NETS
from tests.test_turnings import STILL, WHOLE
from tests.values import odd_values, spoiled

M, P = ((3,), ((0, 0, (1, 2, 0)),)), ((3,), ((0, 0, (1, 0, 2)),))


def renumbered(net, rows):
    """Return a net with new numbers."""
    steps = []
    for one, other, row in net[1]:
        new = {rows[one][number]: rows[other][end] for number, end in enumerate(row)}
        steps.append((one, other, tuple(new[number] for number in range(len(row)))))
    return (net[0], tuple(steps))


def likes(many):
    """Return many pairs of turning nets with the same versions and ends of steps."""
    found = [(M, P), (M, M), (P, P), (N, N), (LEAST, LEAST)]
    for seed, net in enumerate(nets(many, True, 3, 3)):
        chance = Chance(seed)
        found.append((net, renumbered(net, [shuffled(chance, many_of(net, version)) for version in range(len(net[0]))])))
        steps = tuple((one, other, row if chance.below(2) else shuffled(chance, len(row))) for one, other, row in net[1])
        found.append((net, (net[0], steps)))
    return found


LIKES = likes(150)


def becomes(net, net_two, rows):
    """Return whether a net becomes another one by new numbers, read word by word."""
    return all(rows[other][row[number]] == row_two[rows[one][number]]
               for (one, other, row), (_, _, row_two) in zip(net[1], net_two[1]) for number in range(len(row)))


def slow_parted(net, net_two, place, place_two):
    """Return whether some way parts the things of two places, by all pairs to which ways lead these."""
    found = [(place, place_two)]
    for one, two in found:
        for step in range(-len(net[1]), len(net[1])):
            if slow_end_any(net, (one[0], (step,))) is not None:
                ends = (slow_lead(net, step, *one), slow_lead(net_two, step, *two))
                if ends not in found:
                    found.append(ends)
    return any((one == place) != (two == place_two) for one, two in found)


def pair_off(classes, classes_two, is_pair):
    """Return whether classes pair off, one to one, such that each two are a pair."""
    if not classes:
        return not classes_two
    return any(is_pair(classes[0], lot) and pair_off(classes[1:], [one for one in classes_two if one != lot], is_pair)
               for lot in classes_two)


class Examples(Asking):
    def test_as_they_stand(self):
        self.assertEqual([new_numbers(M, ((3,), ((0, 0, (2, 0, 1)),))) is None, new_numbers(M, P), way_parting(M, P, (0, 0), (0, 0)) is None,
                          way_parting(P, P, (0, 0), (0, 1))], [False, None, False, None])


class NewNumbers(Asking):
    def good_numbers(self, net, net_two, rows):
        """Hold that rows are new numbers by which a net becomes another one."""
        self.assertEqual([sorted(row) for row in rows], [list(range(many_of(net, version))) for version in range(len(net[0]))])
        self.assertTrue(type(rows) is tuple and all(type(row) is tuple for row in rows))
        self.assertTrue(becomes(net, net_two, rows))

    def test_against_all_numbers(self):
        told = {True: 0, False: 0}
        for net, net_two in LIKES:
            lots = [list(permutations(range(many_of(net, version)))) for version in range(len(net[0]))]
            if len(places(net)) <= 9:
                any_rows = any(becomes(net, net_two, rows) for rows in product(*lots))
                found = new_numbers(net, net_two)
                self.assertIs(found is not None, any_rows)
                if found is not None:
                    self.good_numbers(net, net_two, found)
                told[any_rows] += 1
        self.assertGreater(min(told.values()), 30)

    def test_just_if_classes_pair_off(self):
        for net, net_two in LIKES[:200]:
            def is_pair(lot, lot_two):
                return any(one[0] == two[0] and way_parting(net, net_two, one, two) is None for one in lot for two in lot_two)

            pairs = pair_off(slow_classes(net), slow_classes(net_two), is_pair)
            self.assertIs(new_numbers(net, net_two) is not None, pairs)

    def test_classes_that_look_alike(self):
        # Both have as many things that stay, and as many of two and of three, but not in the same places of steps.
        steps = ((1, 2, 0, 3, 5, 4), (1, 0, 2, 4, 5, 3))
        net = ((6,), tuple((0, 0, row) for row in steps))
        other = ((6,), ((0, 0, steps[0]), (0, 0, (3, 1, 2, 0, 4, 5))))
        self.assertIsNone(new_numbers(net, other))
        self.good_numbers(net, net, new_numbers(net, net))
        self.good_numbers(STILL, STILL, new_numbers(STILL, STILL))

    def test_classes_of_unlike_versions(self):
        # Each has a class of two things and two of one, but in other versions.
        net = ((2, 2), ((0, 0, (1, 0)), (1, 1, (0, 1))))
        other = ((2, 2), ((0, 0, (0, 1)), (1, 1, (1, 0))))
        self.assertEqual([new_numbers(net, other), new_numbers(other, net)], [None, None])
        self.good_numbers(net, net, new_numbers(net, net))

    def test_no_things_and_no_steps(self):
        self.assertEqual(new_numbers(LEAST, LEAST), ((),))
        self.good_numbers((N[0], ()), (N[0], ()), new_numbers((N[0], ()), (N[0], ())))

    def test_greatest(self):
        chance = Chance(7)
        for net in (RING, STILL, WHOLE, (RING[0], ())):
            other = renumbered(net, [shuffled(chance, 24) for _ in range(8)])
            self.good_numbers(net, other, new_numbers(net, other))
        other = (WHOLE[0], WHOLE[1][:7] + ((7, 0, tuple((number + 1) % 23 for number in range(23)) + (23,)),))
        self.assertIsNone(new_numbers(WHOLE, other))


class Parting(Asking):
    def good_way(self, net, net_two, place, place_two, way):
        """Hold that a way leads one of two things back to itself, and the other one not."""
        self.assertTrue(is_way(net, way) and is_way(net_two, way))
        self.assertEqual((way[0], slow_end_any(net, way)), (place[0], place[0]))
        stays = slow_row(net, way)[place[1]] == place[1]
        self.assertNotEqual(stays, slow_row(net_two, way)[place_two[1]] == place_two[1])

    def test_against_all_pairs(self):
        told = {True: 0, False: 0}
        for net, net_two in LIKES:
            for place in places(net):
                for place_two in places(net_two):
                    if place[0] == place_two[0]:
                        parted = slow_parted(net, net_two, place, place_two)
                        way = way_parting(net, net_two, place, place_two)
                        self.assertIs(way is not None, parted)
                        if parted:
                            self.good_way(net, net_two, place, place_two, way)
                        told[parted] += 1
        self.assertGreater(min(told.values()), 200)

    def test_either_thing_may_come_back(self):
        ring, still = ((2,), ((0, 0, (1, 0)),)), ((2,), ((0, 0, (0, 1)),))
        for net, net_two in ((ring, still), (still, ring)):
            self.good_way(net, net_two, (0, 1), (0, 0), way_parting(net, net_two, (0, 1), (0, 0)))

    def test_greatest(self):
        # To go round WHOLE takes 8 steps, and 24 such rounds; in others it takes fewer rounds.
        for rounds in (1, 2, 5, 12, 23):
            row = tuple((number + 1) % rounds if number < rounds else number for number in range(24))
            other = (WHOLE[0], WHOLE[1][:7] + ((7, 0, row),))
            for number in (0, 7):
                self.good_way(WHOLE, other, (3, number), (3, 0), way_parting(WHOLE, other, (3, number), (3, 0)))
        self.assertIsNone(way_parting(WHOLE, WHOLE, (0, 0), (0, 23)))
        self.assertIsNone(way_parting(STILL, STILL, (4, 0), (4, 23)))
        # By chance, pairs of things come nearly everywhere, and ways stay short.
        chance = Chance(3)
        for _ in range(4):
            wild = (RING[0], tuple((one, other, shuffled(chance, 24)) for one, other, _ in RING[1]))
            way = way_parting(RING, wild, (0, 0), (0, 0))
            self.good_way(RING, wild, (0, 0), (0, 0), way)


class Errors(Asking):
    def test_nets(self):
        for value in BAD_NETS + odd_values():
            for more in ((), (None, None), ((0, 0), (0, 0))):
                function = way_parting if more else new_numbers
                self.refused(InvalidNet, function, value, None, *more)
                self.refused(InvalidNet, function, value, N, *more)
                self.refused(InvalidNet, function, N, value, *more)
        for more in ((), (None, None), ((0, 0), (0, 0))):
            function = way_parting if more else new_numbers
            for value in (O, LOSING):
                # What is not turning is told just behind what is no net, for each of both in turn.
                self.refused(NotTurning, function, value, None, *more)
                self.refused(NotTurning, function, value, N, *more)
                self.refused(NotTurning, function, N, value, *more)

    def test_places(self):
        bad = [(0, 2), (3, 0), (-1, 0), (0, -1), (2, 3), (0,), (0, 0, 0), [0, 0], (True, 0), (0, False), "00", None, 0]
        for value in bad + [value for value in odd_values() if value != (0, 0)] + list(spoiled((0, 0))):
            self.refused(InvalidPlace, way_parting, N, N, value, None)
            self.refused(InvalidPlace, way_parting, N, M, value, (0, 0))
            self.refused(InvalidPlace, way_parting, N, N, (0, 0), value)
        # The second place is one of the second net, with the same version.
        self.refused(InvalidPlace, way_parting, N, N, (0, 0), (1, 0))
        self.refused(InvalidPlace, way_parting, N, N, (2, 0), (0, 0))
        self.refused(InvalidPlace, way_parting, N, M, (1, 0), (1, 0))
        self.refused(InvalidPlace, way_parting, M, N, (0, 2), (0, 2))
        self.refused(InvalidPlace, way_parting, M, N, (0, 0), (1, 0))

    def test_unlike(self):
        same = (N[0][::-1], ())
        for one, other in ((N, M), (M, N), (M, (M[0], ())), (M, (M[0], M[1] * 2)), (M, ((2,), ((0, 0, (1, 0)),))), (N, (N[0], N[1][::-1])),
                           (M, ((((("a", 3),)),), M[1])), ((N[0], ()), same), (M, ((3, 3), M[1])),
                           (((2, 2), ((0, 1, (0, 1)),)), ((2, 2), ((1, 0, (0, 1)),)))):
            self.refused(Unlike, new_numbers, one, other)
            self.refused(Unlike, way_parting, one, other, (0, 0), (0, 0))


if __name__ == "__main__":
    unittest.main()
