import unittest
from itertools import combinations

from puttingback.errors import InvalidCase, InvalidKeys, InvalidLets, InvalidOften
from puttingback.fieldlots import holding_lots
from tests.asking import Asking
from tests.casesamples import ALL_LETS, CHAIN, GREAT, M, W, all_trails, samples, slow_hold
from tests.chance import Chance
from tests.test_cases import BAD_LETS
from tests.values import odd_values, spoiled

FIELDS = ((0, 0, 0, 1), (0, 1, 1, 0), (0, 1, 0, 0))


class Examples(Asking):
    def test_as_they_stand(self):
        self.assertEqual([holding_lots(W, M, FIELDS, often) for often in ("once", "always")], [[(0,), (1,)], [(0, 2), (1,)]])


class Lots(Asking):
    def test_against_all_lots(self):
        seen = set()
        for seed, (case, lets) in enumerate(samples(250)):
            chance = Chance(seed)
            fields = tuple(chance.numbers(len(case[0][1]), 3) for _ in range(seed % 6))
            for often in ("once", "always"):
                trails = all_trails(case, lets, often)
                holding = []
                for length in range(len(fields) + 1):
                    for lot in combinations(range(len(fields)), length):
                        marks = [[fields[index][thing] for index in lot] for thing in range(len(case[0][1]))]
                        if slow_hold(case, trails, marks):
                            holding.append(lot)
                least = [lot for lot in holding if not any(set(less) < set(lot) for less in holding)]
                self.assertEqual(holding_lots(case, lets, fields, often), sorted(least))
                seen.update(map(len, least or ["none"]))
        self.assertGreaterEqual(seen, {0, 1, 2, 4})

    def test_no_things_no_fields_and_no_lets(self):
        for often in ("once", "always"):
            self.assertEqual([holding_lots(((2, ()), (), ()), M, ((), ()), often), holding_lots(W, (), FIELDS, often),
                              holding_lots(W, (), (), often), holding_lots(W, M, (), often)], [[()], [()], [()], []])

    def test_greatest(self):
        bits = tuple(tuple((thing >> bit) & 1 for thing in range(12)) for bit in range(4)) + (tuple(range(11)) + (10,),)
        self.assertEqual(holding_lots(CHAIN, ((0, 0),), bits, "always"), [(0, 1, 2, 3), (4,)])
        halves = (tuple(thing // 6 for thing in range(12)),) * 5
        self.assertEqual(holding_lots(GREAT, ALL_LETS, halves, "always"), [(0,), (1,), (2,), (3,), (4,)])


class Errors(Asking):
    def test_order(self):
        for value in (None, ((7, ()), (), ()), W[:2], list(W)):
            self.refused(InvalidCase, holding_lots, value, None, None, None)
        for value in BAD_LETS:
            self.refused(InvalidLets, holding_lots, W, value, None, None)
        bad = [FIELDS + ((0, 0, 0),), (None,), ((0, 0, 0, 12),), (0, 0, 0, 0), (FIELDS[0],) * 6, list(FIELDS)]
        for value in bad + [value for value in odd_values() if value != ()] + list(spoiled(FIELDS)):
            self.refused(InvalidKeys, holding_lots, W, M, value, None)
        for value in [None, True, "never", "always "] + odd_values():
            self.refused(InvalidOften, holding_lots, W, M, FIELDS, value)
        self.assertEqual(holding_lots(W, M, FIELDS[:1] * 5, "once"), [(0,), (1,), (2,), (3,), (4,)])


if __name__ == "__main__":
    unittest.main()
