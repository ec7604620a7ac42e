import unittest

from puttingback.errors import InvalidNet, InvalidVersion
from puttingback.nets import is_way, way_row
from puttingback.onewaynets import parting_ways, table_from
from tests.asking import Asking
from tests.netsamples import LEAST, LOSING, N, O, RING, many_of, nets, slow_end, slow_row, ways_of
from tests.test_nets import BAD_NETS
from tests.test_turnings import STILL, WHOLE
from tests.values import odd_values

ALL = nets(80, True) + nets(250, False)
GREATEST = [RING, LOSING, STILL, WHOLE]


def slow_rows(net, version, longest):
    """Return the dict, for each version, of the set of all rows to which ways on of at most so many steps lead there."""
    rows = {}
    for way in ways_of(net, version, longest, False):
        rows.setdefault(slow_end(net, way), set()).add(slow_row(net, way))
    return rows


def slow_table(net, version, longest):
    """Return the table from a version, or None."""
    rows = slow_rows(net, version, longest)
    if any(len(lot) > 1 for lot in rows.values()):
        return None
    return tuple(min(rows[other]) if other in rows else None for other in range(len(net[0])))


def is_closed(net, table, version):
    """Return whether a table begins with each thing at its version, and is led to itself by all steps."""
    if table[version] != tuple(range(many_of(net, version))):
        return False
    return all(table[one] is None or table[other] == tuple(row[number] for number in table[one]) for one, other, row in net[1])


class Examples(Asking):
    def test_as_they_stand(self):
        O = ((2, 3), ((0, 1, (2, 2)), (1, 1, (0, 1, 1))))
        self.assertEqual([table_from(O, 1), table_from((O[0], O[1][:1]), 0), table_from((O[0], O[1][:1]), 1), parting_ways((O[0], O[1][:1])),
                          way_row(O, parting_ways(O)[0]) == way_row(O, parting_ways(O)[1])],
                         [None, ((0, 1), (2, 2)), (None, (0, 1, 2)), None, False])


class Tables(Asking):
    def good_ways(self, net, told):
        """Hold that two ways on are told, and a thing that they lead to unlike ones."""
        one, other, number = told
        self.assertTrue(is_way(net, one) and is_way(net, other))
        self.assertTrue(all(step >= 0 for step in one[1] + other[1]))
        self.assertEqual((one[0], slow_end(net, one)), (other[0], slow_end(net, other)))
        self.assertNotEqual(slow_row(net, one)[number], slow_row(net, other)[number])

    def test_against_all_ways(self):
        told = {True: 0, False: 0, "none there": 0}
        for net in ALL:
            tables = [slow_table(net, version, 4) for version in range(len(net[0]))]
            for version, table in enumerate(tables):
                self.assertEqual(table_from(net, version), table)
                told[table is None] += 1
                told["none there"] += table is not None and None in table
                if table is not None:
                    self.assertTrue(is_closed(net, table, version))
            ways = parting_ways(net)
            self.assertIs(ways is None, None not in tables)
            if ways is not None:
                self.good_ways(net, ways)
        self.assertGreater(min(told.values()), 40)

    def test_steps_on_alone(self):
        # A step back would come to another row, but it is no step on.
        net = ((2, 2), ((0, 1, (0, 1)), (0, 1, (0, 1))))
        self.assertEqual([table_from(net, 0), table_from(net, 1), parting_ways(net)], [((0, 1), (0, 1)), (None, (0, 1)), None])
        turned = ((2, 2, 2), ((1, 0, (0, 1)), (1, 2, (0, 1)), (2, 0, (1, 0))))
        self.assertEqual([table_from(turned, 0), table_from(turned, 1), table_from(turned, 2)],
                         [((0, 1), None, None), None, ((1, 0), None, (0, 1))])
        self.good_ways(turned, parting_ways(turned))

    def test_long_ways(self):
        # Two ways through many versions come to unlike rows by their last steps alone.
        versions = (2,) * 8
        steps = tuple((at, at + 1, (0, 1)) for at in range(7)) + ((0, 7, (1, 0)),)
        self.assertEqual([table_from((versions, steps), at) is None for at in range(8)], [True] + [False] * 7)
        self.good_ways((versions, steps), parting_ways((versions, steps)))
        ring = tuple((at, (at + 1) % 8, (0, 1) if at < 7 else (0, 0)) for at in range(8))
        self.assertEqual([table_from((versions, ring), at) for at in range(8)], [None] * 8)
        self.good_ways((versions, ring), parting_ways((versions, ring)))
        self.assertEqual(table_from((versions, ring[:7]), 0), ((0, 1),) * 8)

    def test_no_things_and_no_steps(self):
        self.assertEqual([table_from(LEAST, 0), parting_ways(LEAST)], [((),), None])
        # From a version without things all ways do the same.
        net = ((0, 2), ((0, 1, ()), (1, 1, (1, 0)), (0, 0, ())))
        self.assertEqual([table_from(net, 0), table_from(net, 1)], [((), ()), None])
        self.good_ways(net, parting_ways(net))
        self.assertEqual([table_from(((2, 3), ()), 0), table_from(((2, 3), ()), 1)], [((0, 1), None), (None, (0, 1, 2))])

    def test_greatest(self):
        for net in GREATEST:
            tables = [table_from(net, version) for version in range(8)]
            ways = parting_ways(net)
            self.assertIs(ways is None, None not in tables)
            if ways is not None:
                self.good_ways(net, ways)
            for version, table in enumerate(tables):
                self.assertTrue(table is None or is_closed(net, table, version))
        self.assertEqual(table_from(STILL, 3), (tuple(range(24)),) * 8)
        self.assertIsNone(table_from(WHOLE, 0))


class Errors(Asking):
    def test_order(self):
        for value in BAD_NETS + odd_values():
            self.refused(InvalidNet, table_from, value, None)
            self.refused(InvalidNet, table_from, value, 0)
            self.refused(InvalidNet, parting_ways, value)
        for net in (N, O):
            for value in [len(net[0]), -1, True, False, "0", (0,)] + odd_values():
                self.refused(InvalidVersion, table_from, net, value)


if __name__ == "__main__":
    unittest.main()
