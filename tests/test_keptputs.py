import unittest
from itertools import product

from puttingback.errors import InvalidPuts, InvalidShowing
from puttingback.keptputs import is_puts_fault, kept_of, puts_fault
from tests.asking import Asking
from tests.chance import Chance
from tests.test_asides import G, SHOWINGS, slow_puts
from tests.values import disturbed, odd_values, spoiled

GOOD, BAD = ((0, 2), (1, None), (0, 2), (None, 3)), ((0, 2), (1, 2), (0, 2), (None, 3))


def all_puts(showing):
    """Return all puts of a showing, or many of them."""
    many, row = showing
    choices = [None] + list(range(len(row)))
    if len(choices) ** (many * len(row)) <= 4096:
        return list(product(product(choices, repeat=many), repeat=len(row)))
    chance = Chance(len(row) + many)
    found = []
    for at in range(600):
        # Most of these go wrong at once if they are not made to be nearly right.
        puts = [list(puts) for puts in slow_puts(showing, tuple(chance.below(3) * 40 + thing for thing in range(len(row))))]
        aside = tuple(chance.below(3) for _ in row)
        puts = [list(one) for one in slow_puts(showing, aside) or puts]
        for _ in range(at % 3):
            puts[chance.below(len(row))][chance.below(many)] = chance.one_of(choices)
        found.append(tuple(map(tuple, puts)))
    return found


def tidy_asides(many):
    """Return all tidy asides of so many things."""
    asides = [()]
    for _ in range(many):
        asides = [aside + (side,) for aside in asides for side in range(max(aside, default=-1) + 2)]
    return asides


def slow_faults(showing, puts):
    """Return all faults of puts, read word by word."""
    many, row = showing
    things, worths = range(len(row)), range(many)
    faults = [("own", thing) for thing in things if puts[thing][row[thing]] != thing]
    for thing, worth in product(things, worths):
        end = puts[thing][worth]
        if end is not None:
            if row[end] != worth:
                faults.append(("worth", thing, worth))
            faults += [("twice", thing, worth, later) for later in worths if puts[end][later] != puts[thing][later]]
    return faults


class Examples(Asking):
    def test_as_they_stand(self):
        self.assertEqual(kept_of(G, GOOD), (0, 1, 0, 2))
        self.assertIn(puts_fault(G, BAD), slow_faults(G, BAD))
        self.assertIn(("twice", 1, 1, 0), slow_faults(G, BAD))
        self.says(True, is_puts_fault(G, BAD, ("twice", 1, 1, 0)))


class Puts(Asking):
    def test_against_all_asides(self):
        for showing in SHOWINGS:
            kept = {slow_puts(showing, aside): aside for aside in tidy_asides(len(showing[1]))
                    if slow_puts(showing, aside) is not None}
            found = 0
            for puts in all_puts(showing):
                faults = slow_faults(showing, puts)
                self.assertEqual(kept_of(showing, puts), kept.get(puts))
                # Puts are those of a clear aside just if they have no fault.
                self.says(puts in kept, not faults)
                fault = puts_fault(showing, puts)
                self.assertTrue(fault in faults or fault is None and not faults)
                found += puts in kept
            self.assertGreater(found, 0)

    def test_is_puts_fault(self):
        for showing in SHOWINGS[::3]:
            many, row = showing
            for puts in all_puts(showing)[::40]:
                faults = slow_faults(showing, puts)
                for word in ("own", "worth", "twice", "often"):
                    for length in range(4):
                        for numbers in product(range(-1, 4), repeat=length):
                            self.says((word,) + numbers in faults, is_puts_fault(showing, puts, (word,) + numbers))

    def test_is_puts_fault_at_any_values(self):
        puts = ((None, 2), (1, 2), (0, 1), (None, 3))
        faults = slow_faults(G, puts)
        self.assertEqual({fault[0] for fault in faults}, {"own", "worth", "twice"})
        for fault in faults:
            self.says(True, is_puts_fault(G, puts, fault))
            for value in spoiled(fault):
                self.says(False, is_puts_fault(G, puts, value))
            for value in disturbed(fault):
                plain = isinstance(value, tuple) and not any(isinstance(part, bool) for part in value)
                self.says(plain and value in faults, is_puts_fault(G, puts, value))
            self.says(False, is_puts_fault(G, puts, fault + (0,)) and fault + (0,) not in faults)
        for value in odd_values():
            self.says(False, is_puts_fault(G, puts, value))

    def test_no_things(self):
        for many in (0, 3, 12):
            self.assertEqual([kept_of((many, ()), ()), puts_fault((many, ()), ())], [(), None])
            self.says(False, is_puts_fault((many, ()), (), ("own", 0)))

    def test_greatest(self):
        showing = (12, tuple(thing % 12 for thing in range(40)))
        aside = tuple(thing // 12 for thing in range(40))
        puts = slow_puts(showing, aside)
        self.assertEqual([kept_of(showing, puts), puts_fault(showing, puts)], [aside, None])
        self.assertEqual(kept_of((1, (0,) * 40), tuple((thing,) for thing in range(40))), tuple(range(40)))
        puts = puts[:39] + (puts[39][:11] + (35,),)
        self.assertEqual(kept_of(showing, puts), None)
        self.assertIn(puts_fault(showing, puts), slow_faults(showing, puts))


class Errors(Asking):
    def test_order(self):
        for function, more in ((kept_of, ()), (puts_fault, ()), (is_puts_fault, (None,))):
            for value in [(13, ()), (2, [0]), (2, (2,)), None, (2, (0,) * 41)]:
                self.refused(InvalidShowing, function, value, None, *more)
            bad = [GOOD[:3], GOOD + (GOOD[0],), ((0, 2), (1, None), (0, 2), (None, 4)), ((0, 2), (1, -1), (0, 2), (0, 3)),
                   ((0, 2), (1,), (0, 2), (None, 3)), ((0, 2, 0), (1, None), (0, 2), (None, 3)), ((0, 2), None, (0, 2), (0, 3))]
            for value in bad + odd_values() + list(spoiled(GOOD)):
                self.refused(InvalidPuts, function, G, value, *more)


if __name__ == "__main__":
    unittest.main()
