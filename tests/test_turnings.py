import unittest

from puttingback.errors import InvalidNet, InvalidPlace, NotTurning
from puttingback.nets import is_way
from puttingback.turnings import classes_of, is_naming, moving_ring, naming_of, way_between
from tests.asking import Asking
from tests.netsamples import (LEAST, LOSING, N, O, RING, all_namings, many_of, nets, places, slow_classes, slow_end,
                              slow_row, ways_of)
from tests.test_nets import BAD_NETS
from tests.values import disturbed, odd_values, spoiled

TURNING = nets(200, True)

# Eight versions of 24 things each, with just one class for each number, and with one class for all.
STILL = (RING[0], tuple((at % 8, (at + 1) % 8, tuple(range(24))) for at in range(14)))
WHOLE = (RING[0], STILL[1][:7] + ((7, 0, tuple((number + 1) % 24 for number in range(24))),))


def slow_is_naming(net, value):
    """Return whether rows of integers are a naming, read word by word."""
    if any(len(set(row)) != len(row) for row in value):
        return False
    return all(value[one][number] == value[other][end] for one, other, row in net[1] for number, end in enumerate(row))


class Examples(Asking):
    def test_as_they_stand(self):
        self.assertEqual([naming_of(N), is_naming((N[0][:2], N[1][:2]), ((5, 7), (7, 5))), moving_ring(N)[0][0], classes_of(N),
                          way_between(N, (0, 0), (0, 1))],
                         [None, True, 2, [((0, 0), (1, 1)), ((0, 1), (1, 0)), ((2, 0), (2, 1), (2, 2))], None])


class Namings(Asking):
    def good_naming(self, net, value):
        """Hold that a value is a naming of a net."""
        self.assertEqual([len(row) for row in value], [many_of(net, version) for version in range(len(net[0]))])
        self.assertTrue(all(type(row) is tuple and all(type(name) is int and 0 <= name <= 200 for name in row) for row in value))
        self.assertTrue(slow_is_naming(net, value))
        self.says(True, is_naming(net, value))

    def good_ring(self, net, told):
        """Hold that a pair of a ring and of a thing is told that it leads to another one."""
        (version, row), number = told
        self.assertEqual(slow_end(net, (version, row)), version)
        self.assertLessEqual(len(row), 400)
        self.assertNotEqual(slow_row(net, (version, row))[number], number)

    def test_against_all_ways(self):
        told = {True: 0, False: 0}
        for net in TURNING + [RING, STILL, WHOLE]:
            classes = slow_classes(net)
            still = all(len({version for version, _ in lot}) == len(lot) for lot in classes)
            naming, ring = naming_of(net), moving_ring(net)
            self.assertEqual((naming is not None, ring is None), (still, still))
            if still:
                self.good_naming(net, naming)
            else:
                self.good_ring(net, ring)
            told[still] += 1
        self.assertGreater(min(told.values()), 50)

    def test_ways_come_to_the_same_just_if_there_is_a_naming(self):
        for net in nets(60, True, 2, 2):
            rows = {}
            for version in range(len(net[0])):
                for way in ways_of(net, version, 4, True):
                    rows.setdefault((version, slow_end(net, way)), set()).add(slow_row(net, way))
            self.assertIs(naming_of(net) is not None, all(len(found) == 1 for found in rows.values()))

    def test_against_all_namings(self):
        told = {True: 0, False: 0}
        for net in TURNING:
            if len(places(net)) <= 6:
                any_naming = False
                for value in all_namings(net, 3):
                    expected = slow_is_naming(net, value)
                    self.says(expected, is_naming(net, value))
                    any_naming = any_naming or expected
                    told[expected] += 1
                if len(slow_classes(net)) <= 3:
                    self.assertIs(any_naming, naming_of(net) is not None)
        self.assertGreater(min(told.values()), 100)

    def test_integers_from_0_to_200(self):
        net = (N[0][:2], N[1][:2])
        for value in (((200, 0), (0, 200)), ((199, 200), (200, 199)), ((5, 7), (7, 5))):
            self.says(True, is_naming(net, value))
        for value in (((201, 0), (0, 201)), ((-1, 0), (0, -1)), ((5, 7), (5, 7)), ((5, 5), (5, 5)), ((5, 7),), ((5, 7), (7, 5), ()),
                      ((5, 7), (7,)), ((5, 7), (7, 5, 3)), ([5, 7], (7, 5)), [(5, 7), (7, 5)]):
            self.says(False, is_naming(net, value))

    def test_any_values(self):
        net = (N[0][:2], N[1][:2])
        for value in odd_values() + list(spoiled(((0, 1), (1, 0)))):
            self.says(False, is_naming(net, value))
            self.says(value == ((),), is_naming(LEAST, value))
        for value in disturbed(((0, 1), (1, 0))):
            plain = type(value) is tuple and len(value) == 2 and all(type(row) is tuple and len(row) == 2 and all(
                type(name) is int and 0 <= name <= 200 for name in row) for row in value)
            self.says(plain and slow_is_naming(net, value), is_naming(net, value))

    def test_no_things_and_no_steps(self):
        self.assertEqual([naming_of(LEAST), moving_ring(LEAST), classes_of(LEAST)], [((),), None, []])
        net = ((0, 2), ())
        self.good_naming(net, naming_of(net))
        self.assertEqual(classes_of(net), [((1, 0),), ((1, 1),)])
        greatest = (RING[0], ())
        self.good_naming(greatest, naming_of(greatest))
        self.assertEqual(len(classes_of(greatest)), 192)

    def test_long_rings(self):
        # The one ring goes through all eight versions, and moves things by a step back as well as on.
        ring = ((12,) * 8, tuple((at, at + 1, tuple(range(12))) for at in range(7)) + ((0, 7, tuple(range(1, 12)) + (0,)),))
        self.good_ring(ring, moving_ring(ring))
        self.assertGreaterEqual(len(moving_ring(ring)[0][1]), 8)
        self.good_ring(WHOLE, moving_ring(WHOLE))


class Classes(Asking):
    def test_against_joined_lots(self):
        for net in TURNING + [RING, STILL, WHOLE]:
            self.assertEqual(classes_of(net), slow_classes(net))
        self.assertEqual([len(classes_of(STILL)), len(classes_of(WHOLE))], [24, 1])

    def test_ways_between(self):
        told = {True: 0, False: 0}
        for net in TURNING + [WHOLE]:
            classes = slow_classes(net)
            lots = {place: lot for lot in classes for place in lot}
            for one in places(net)[:12]:
                for other in places(net)[-12:]:
                    way = way_between(net, one, other)
                    self.assertIs(way is None, other not in lots[one])
                    if way is not None:
                        self.says(True, is_way(net, way))
                        self.assertEqual((way[0], slow_end(net, way), slow_row(net, way)[one[1]]), (one[0],) + other)
                    told[way is None] += 1
        self.assertGreater(min(told.values()), 100)

    def test_a_place_and_itself(self):
        for net in (N, WHOLE):
            for place in places(net):
                way = way_between(net, place, place)
                self.assertEqual((way[0], slow_end(net, way), slow_row(net, way)[place[1]]), (place[0],) + place)


class Errors(Asking):
    def test_nets(self):
        for function, more in ((naming_of, ()), (is_naming, (None,)), (moving_ring, ()), (classes_of, ()), (way_between, (None, None)),
                               (way_between, ((0, 0), (0, 0)))):
            for value in BAD_NETS + odd_values():
                self.refused(InvalidNet, function, value, *more)
            for value in (O, LOSING, ((2, 1), ((0, 1, (0, 0)),)), ((1, 2), ((0, 1, (1,)),)), ((0, 1), ((0, 1, ()),))):
                self.refused(NotTurning, function, value, *more)

    def test_places(self):
        bad = [(0, 2), (3, 0), (-1, 0), (0, -1), (2, 3), (0,), (0, 0, 0), [0, 0], (True, 0), (0, False), "00", None, 0]
        for value in bad + [value for value in odd_values() if value != (0, 0)] + list(spoiled((0, 0))):
            self.refused(InvalidPlace, way_between, N, value, None)
            self.refused(InvalidPlace, way_between, N, value, (0, 0))
            self.refused(InvalidPlace, way_between, N, (0, 0), value)
        self.refused(InvalidPlace, way_between, LEAST, (0, 0), (0, 0))


if __name__ == "__main__":
    unittest.main()
