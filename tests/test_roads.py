import unittest
from itertools import combinations

from puttingback.errors import InvalidKind, InvalidTerms, InvalidThing
from puttingback.roads import is_closed_lot, road_to, things_come
from tests.asking import Asking
from tests.lifesamples import (B, EIGHTS, GREAT, K, L, S, T, all_deeds, rows_of_terms, slow_graph, slow_reach, slow_roads,
                               stepping)
from tests.samples import slow_things
from tests.values import disturbed, odd_values, spoiled

SMALL = [(kind, terms) for kind, terms in rows_of_terms(200) if len(slow_things(kind)) <= 8]
BAD_TERMS = [(), (S,) * 5, [S], S, (S, ("part", "c")), (S, None), (S, list(S)), None, 0]

# As many pairs of a thing and of a deed as may be, and more: 64 x 64, 512 x 8, 512 x (7 + 1).
SQUARE = (("a", 8), ("b", 8))
SEVEN = ("then", ("part", "a"), ("table", (0, 1, 2, 3, 4, 5, 6, 6), 7))
MOST = [(SQUARE, (("whole",),)), (EIGHTS, (GREAT,)), (EIGHTS, (SEVEN, ("fixed", 0, 1))), (EIGHTS, (("fixed", 0, 4), ("fixed", 0, 2)) * 1)]
MORE = [(SQUARE, (("whole",), ("fixed", 0, 1))), (EIGHTS, (GREAT, ("fixed", 0, 1))), (EIGHTS, (("whole",),)), (EIGHTS, (("part", "a"),) * 4),
        (EIGHTS, (("fixed", 8, 9),))]


class Examples(Asking):
    def test_as_they_stand(self):
        B = ("part", "b")
        self.assertEqual([things_come(K, (S,), (0, 0)), road_to(K, (S, B), (0, 0), (1, 2)), road_to(K, (S,), (0, 0), (0, 1)),
                          is_closed_lot(K, (B,), (3, 4, 5)), is_closed_lot(K, (S,), (0, 1, 3))],
                         [[0, 3], ((0, 2), (1, 2)), None, True, False])


class Roads(Asking):
    def test_against_all_roads(self):
        lengths = {}
        for kind, terms in SMALL:
            graph, things = slow_graph(kind, terms), slow_things(kind)
            for thing in things[:4]:
                come = slow_reach(graph, thing)
                self.assertEqual(things_come(kind, terms, thing), sorted(things.index(one) for one in come))
                # Worths stand in Python's order, so that the first road found is the first one.
                roads = slow_roads(graph, thing, 2)
                for target in things:
                    road = road_to(kind, terms, thing, target)
                    self.assertIs(road is None, target not in come)
                    first = next((road for road, end in roads if end == target), None)
                    if road is not None and len(road) > 2:
                        self.assertIsNone(first)
                        self.goes(graph, thing, road, target)
                    else:
                        self.assertEqual(road, first)
                    length = None if road is None else len(road)
                    lengths[length] = lengths.get(length, 0) + 1
        self.assertGreater(min(lengths[length] for length in (None, 0, 1, 2)), 30)

    def goes(self, graph, thing, road, target):
        """Hold that a road comes from one thing to another one."""
        for deed in road:
            thing = dict(graph[thing])[deed]
        self.assertEqual(thing, target)

    def test_long_roads(self):
        for many in (2, 5, 8):
            for ring in (False, True):
                terms = (stepping(many, ring),)
                graph = slow_graph(many, terms)
                for thing in range(many):
                    come = list(range(many)) if ring else list(range(thing, many))
                    self.assertEqual(things_come(many, terms, thing), come)
                    for target in range(many):
                        road = road_to(many, terms, thing, target)
                        self.assertEqual(None if road is None else len(road), (target - thing) % many if target in come else None)
                        if road is not None:
                            self.goes(graph, thing, road, target)
        self.assertEqual(road_to(8, (stepping(8, True),), 6, 2), ((0, 1), (0, 0), (0, 1), (0, 2)))

    def test_first_of_many_roads(self):
        # Unlike roads come to a thing: by fewer deeds first, then by the first term, then by the least worth.
        whole, part = ("whole",), ("part", "b")
        self.assertEqual(road_to(K, (whole, part), (0, 0), (0, 2)), ((0, (0, 2)),))
        self.assertEqual(road_to(K, (part, whole), (0, 0), (0, 2)), ((0, 2),))
        self.assertEqual(road_to(K, (part, ("part", "a")), (0, 0), (1, 2)), ((0, 2), (1, 1)))
        self.assertEqual(road_to(K, (("part", "a"), part), (0, 0), (1, 2)), ((0, 1), (1, 2)))
        self.assertEqual(road_to(2, (("table", (0, 0), 1), whole, whole), 0, 1), ((1, 1),))

    def test_to_itself(self):
        for kind, terms in SMALL[:40]:
            for thing in slow_things(kind):
                self.assertEqual(road_to(kind, terms, thing, thing), ())

    def test_lists_are_new(self):
        things_come(K, (S,), (0, 0)).append(9)
        self.assertEqual(things_come(K, (S,), (0, 0)), [0, 3])


class ClosedLots(Asking):
    def test_against_all_lots(self):
        told = {True: 0, False: 0}
        for kind, terms in SMALL:
            graph, things = slow_graph(kind, terms), slow_things(kind)
            for lot in [lot for many in range(len(things) + 1) for lot in combinations(range(len(things)), many)]:
                closed = all(things.index(end) in lot for number in lot for _, end in graph[things[number]])
                self.says(closed, is_closed_lot(kind, terms, lot))
                told[closed] += 1
        self.assertGreater(min(told.values()), 500)

    def test_least_one_that_has_a_thing(self):
        for kind, terms in SMALL:
            for thing in slow_things(kind):
                self.says(True, is_closed_lot(kind, terms, tuple(things_come(kind, terms, thing))))

    def test_others(self):
        for value in [(1, 0), (0, 0), (0, 6), (-1, 0), [0], 0, None, (True,), ((0, 0),), (0, None), (2, 1, 0), (0, 2, 1), (0, 1, 2, 2),
                      (0, 0, 1, 2), (3, 4, 5, 0, 1, 2)] + list(spoiled((0, 1, 2))):
            self.says(False, is_closed_lot(K, (B,), value))
        for value in odd_values():
            self.says(value == (), is_closed_lot(K, (B,), value))
        for value in disturbed((0, 1, 2)):
            self.says(value in ((), (0, 1, 2)) and True not in [type(one) is bool for one in value], is_closed_lot(K, (B,), value))

    def test_nothing_in_it(self):
        for kind, terms in SMALL[:20] + [(0, (("whole",),)), ((("a", 2), ("b", 0)), (("part", "b"),))]:
            self.says(True, is_closed_lot(kind, terms, ()))
            self.says(True, is_closed_lot(kind, terms, tuple(range(len(slow_things(kind))))))
        self.says(False, is_closed_lot(0, (("whole",),), (0,)))


class Greatest(Asking):
    def test_pairs_of_a_thing_and_of_a_deed(self):
        for kind, terms in MOST:
            things = slow_things(kind)
            self.assertLessEqual(len(things) * len(all_deeds(kind, terms)), 4096)
            come = things_come(kind, terms, things[3])
            self.says(True, is_closed_lot(kind, terms, tuple(come)))
            target = things[come[-1]]
            self.assertEqual(len(road_to(kind, terms, things[3], target)), int(target != things[3]))
        self.assertEqual(len(things_come(SQUARE, (("whole",),), (0, 0))), 64)
        for kind, terms in MORE:
            thing = slow_things(kind)[0]
            self.assertGreater(len(slow_things(kind)) * len(all_deeds(kind, terms)), 4096)
            self.too_many(4096, things_come, kind, terms, thing)
            self.too_many(4096, road_to, kind, terms, thing, thing)
            self.too_many(4096, is_closed_lot, kind, terms, ())
            self.too_many(4096, is_closed_lot, kind, terms, None)
            # It is told at last.
            self.refused(InvalidThing, things_come, kind, terms, 0)
            self.refused(InvalidThing, road_to, kind, terms, thing, 0)

    def test_one_thing_and_small_kinds(self):
        self.assertEqual([things_come(1, (("whole",),), 0), road_to(1, (("whole",),), 0, 0)], [[0], ()])
        self.assertEqual(things_come(L, (T,), ((0, 0), 1)), sorted(slow_things(L).index(one) for one in slow_reach(slow_graph(L, (T,)), ((0, 0), 1))))


class Errors(Asking):
    def test_order(self):
        kinds = [13, -1, True, (), [("a", 2)], (("a", 2), ("a", 2)), None]
        for function, more in ((things_come, 1), (road_to, 2), (is_closed_lot, 1)):
            for value in kinds:
                self.refused(InvalidKind, function, value, None, *(None,) * more)
            for value in BAD_TERMS + odd_values():
                self.refused(InvalidTerms, function, K, value, *(None,) * more)
                self.refused(InvalidTerms, function, K, value, *((0, 0),) * more)
        for value in [(0, 3), (2, 0), [0, 0], 0, None, (True, 0)] + [value for value in odd_values() if value != (0, 0)]:
            self.refused(InvalidThing, things_come, K, (S,), value)
            self.refused(InvalidThing, road_to, K, (S,), value, None)
            self.refused(InvalidThing, road_to, K, (S,), value, (0, 0))
            self.refused(InvalidThing, road_to, K, (S,), (0, 0), value)
        self.refused(InvalidThing, things_come, 0, (("whole",),), 0)


if __name__ == "__main__":
    unittest.main()
