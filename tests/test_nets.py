import unittest

from puttingback.errors import InvalidNet, InvalidWay
from puttingback.nets import is_net, is_turning, is_way, way_end, way_row
from tests.asking import Asking
from tests.chance import Chance
from tests.netsamples import (GREATEST, LEAST, LOSING, N, O, RING, many_of, nets, slow_end, slow_row, slow_turning, walk,
                              ways_of)
from tests.samples import slow_is_kind, slow_things
from tests.values import disturbed, odd_values, spoiled

BAD_NETS = [N[:1], N + (0,), list(N), ((), ()), ((1,) * 9, ()), (N[0], list(N[1])), (list(N[0]), N[1]), ((25,), ()), ((13,), ()),
            ((((("a", 5), ("b", 5))),), ()), ((2, None), ()), (N[0], N[1] * 5), (N[0], ((0, 1),)), (N[0], ((0, 3, (0, 1)),)),
            (N[0], ((-1, 1, (0, 1)),)), (N[0], ((0, 1, (0, 2)),)), (N[0], ((0, 1, (0, -1)),)), (N[0], ((0, 1, (0,)),)),
            (N[0], ((0, 1, (0, 1, 0)),)), (N[0], ((0, 2, (0, 1, 2)),)), (N[0], ((0, 1, [0, 1]),)), (N[0], ([0, 1, (0, 1)],)),
            (N[0], ((0, 1, (0, 1), 0),)), ((2, 0), ((0, 1, (0, 0)),)), ((2, 0), ((0, 1, ()),)), None, 0, ()]
ALL = nets(60, True) + nets(100, False) + [RING, LOSING]


def slow_is_net(value):
    """Return whether any value is a net, read word by word."""
    def is_row(part, least, most):
        return type(part) is tuple and least <= len(part) <= most

    def is_built(kind):
        if type(kind) is int:
            return 0 <= kind <= 12
        if not is_row(kind, 1, 6) or not all(is_row(pair, 2, 2) and type(pair[0]) is str and is_built(pair[1]) for pair in kind):
            return False
        words = [word for word, _ in kind]
        return len(set(words)) == len(words) and all(1 <= len(word) <= 8 and set(word) <= set("abcdefghijklmnopqrstuvwxyz") for word in words)

    if not is_row(value, 2, 2) or not is_row(value[0], 1, 8) or not is_row(value[1], 0, 14):
        return False
    if not all(is_built(kind) and slow_is_kind(kind) and len(slow_things(kind)) <= 24 for kind in value[0]):
        return False
    for step in value[1]:
        if not is_row(step, 3, 3) or not all(type(part) is int and 0 <= part < len(value[0]) for part in step[:2]):
            return False
        one, other = [len(slow_things(value[0][part])) for part in step[:2]]
        if not is_row(step[2], one, one) or not all(type(end) is int and 0 <= end < other for end in step[2]):
            return False
    return True


class Examples(Asking):
    def test_as_they_stand(self):
        self.assertEqual([is_net(N), is_net((N[0], N[1] + ((0, 2, (0, 1, 2)),))), is_turning(N), is_turning(O),
                          is_way(N, (0, (0, -1))), is_way(O, (0, (0, -1))), is_way(N, (0, (0, 0)))],
                         [True, False, True, False, True, False, False])
        self.assertEqual([way_end(N, (0, (0, 1))), way_row(N, (0, (-2,))), way_row(O, (0, (0, 1))), way_row(O, (1, ()))],
                         [0, (1, 0), (1, 1), (0, 1, 2)])


class Nets(Asking):
    def test_nets(self):
        for net in ALL:
            self.says(True, is_net(net))
            self.says(slow_turning(net), is_turning(net))
        for net in (((12,) * 8, ()), ((GREATEST,), ()), (((("a", 12), ("b", 2)),), ()), ((0,) * 8, ((3, 4, ()),) * 14),
                    ((2, 0), ((1, 0, ()),)), ((1,), ((0, 0, (0,)),) * 14)):
            self.says(True, is_net(net))
        self.assertEqual([is_turning(((2, 0), ((1, 0, ()),))), is_turning(((2, 2), ((0, 1, (1, 1)),))), is_turning(LEAST),
                          is_turning(((2, 3), ((0, 1, (0, 1)),))), is_turning(((0, 0), ((0, 1, ()),)))],
                         [False, False, True, False, True])
        self.assertEqual([is_turning(RING), is_turning(LOSING)], [True, False])

    def test_others(self):
        for value in BAD_NETS + odd_values() + list(spoiled(O)):
            self.says(False, is_net(value))

    def test_disturbed(self):
        for net in (O, ((2, (("a", 1), ("b", 2))), ((0, 1, (1, 0)),)), LEAST):
            for value in disturbed(net):
                self.says(slow_is_net(value), is_net(value))


class Ways(Asking):
    def test_against_all_ways(self):
        for net in ALL[:-2]:
            turning = slow_turning(net)
            for version in range(len(net[0])):
                for way in ways_of(net, version, 2, True):
                    end = slow_end(net, way)
                    self.says(end is not None, is_way(net, way))
                    if end is None:
                        self.assertFalse(turning)
                        self.refused(InvalidWay, way_end, net, way)
                        self.refused(InvalidWay, way_row, net, way)
                    else:
                        self.assertEqual([way_end(net, way), way_row(net, way)], [end, slow_row(net, way)])

    def test_long_ways(self):
        for seed in range(40):
            chance = Chance(seed)
            for net in (RING, LOSING, N, O):
                way = walk(net, chance, chance.below(len(net[0])), 400, slow_turning(net))
                self.says(True, is_way(net, way))
                self.assertEqual([way_end(net, way), way_row(net, way)], [slow_end(net, way), slow_row(net, way)])
        self.says(True, is_way(N, (2, (2, -3) * 200)))
        self.says(False, is_way(N, (2, (2, -3) * 200 + (2,))))

    def test_no_steps(self):
        for net in ALL:
            for version in range(len(net[0])):
                self.says(True, is_way(net, (version, ())))
                self.assertEqual([way_end(net, (version, ())), way_row(net, (version, ()))],
                                 [version, tuple(range(many_of(net, version)))])

    def test_no_things(self):
        net = ((0, 3), ((0, 1, ()), (1, 1, (0, 0, 1))))
        self.assertEqual([way_end(net, (0, (0, 1))), way_row(net, (0, (0, 1))), way_row(net, (0, ()))], [1, (), ()])

    def test_others(self):
        bad = [(0,), (0, (0,), 0), [0, (0,)], (0, [0]), (3, ()), (-1, ()), (True, ()), (0, (True,)), (0, (False,)), (1, (0,)), (0, (3,)),
               (0, (-4,)), (0, (10 ** 119,)), (0, (-10 ** 119,)), (0, (0, 0)), (0, (0, 2)), (0, (None,)), (0, ("0",)), (0, ((0,),)), None, 0]
        for value in bad + [value for value in odd_values() if value != (0, ())]:
            self.says(False, is_way(N, value))
            self.says(False, is_way(O, value))
        self.says(True, is_way(N, (0, ())))
        for value in disturbed((0, (0, 1, -2))):
            plain = (type(value) is tuple and len(value) == 2 and type(value[0]) is int and 0 <= value[0] < 3
                     and type(value[1]) is tuple and all(type(step) is int for step in value[1]))
            self.says(plain and slow_end(N, value) is not None, is_way(N, value))


class Errors(Asking):
    def test_order(self):
        for value in BAD_NETS + odd_values():
            self.refused(InvalidNet, is_turning, value)
            self.refused(InvalidNet, is_way, value, (0, ()))
            for function in (way_end, way_row):
                self.refused(InvalidNet, function, value, None)
                self.refused(InvalidNet, function, value, (0, ()))
        for value in [(0, (0, 0)), (0, (-1,)), (0, (0,) * 401), (2, ()), 0] + [one for one in odd_values() if one != (0, ())]:
            for function in (way_end, way_row):
                self.refused(InvalidWay, function, O, value)


if __name__ == "__main__":
    unittest.main()
