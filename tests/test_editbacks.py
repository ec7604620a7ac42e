import unittest

from puttingback.editbacks import longest_way, lost_letter
from puttingback.errors import InvalidMachine, InvalidSide, NotServing
from tests.asking import Asking
from tests.machinesamples import (A, F, GREAT, H, LEAST, REFUSING, climbing, letters, machines, mixing, serving, slow_come_by,
                                  slow_parting, slow_step, slow_triples, turned)
from tests.test_editmachines import BAD_MACHINES
from tests.values import odd_values

SERVING = serving(machines(200, 2, 3, 3, 12) + machines(60, 3, 4, 2, 5))


def slow_way(machine, parting, triple, letter):
    """Return the way of a letter at a triple, "lost" if it is not taken back, or None if it is not let there."""
    came = slow_step(machine, triple, letter)
    if came == "refused":
        return None
    found = [(came, 0)]
    for end, length in found:
        if (end, triple) not in parting:
            return length
        for other in letters(machine):
            further = slow_step(machine, end, other) if other[0] == letter[0] else "refused"
            if further != "refused" and further not in [known for known, _ in found]:
                found.append((further, length + 1))
    return "lost"


def slow_ways(machine, side, triples, parting):
    """Return the ways of all letters of a side at some triples, where they are let."""
    ways = [slow_way(machine, parting, triple, letter) for triple in triples for letter in letters(machine)
            if letter[0] == side]
    return [way for way in ways if way is not None]


class Examples(Asking):
    def test_as_they_stand(self):
        self.assertEqual([longest_way(A, 0), longest_way(H, 0), longest_way(H, 1), lost_letter(A, 1)], [1, 3, 1, None])


class TakingBack(Asking):
    def is_lost(self, machine, parting, side, told):
        """Hold that a row and a letter are told that is not taken back."""
        row, letter = told
        at, triple = slow_come_by(machine, row)
        self.assertEqual((at, letter[0]), ("at", side))
        self.assertEqual(slow_way(machine, parting, triple, letter), "lost")

    def test_against_all_ways(self):
        told = {}
        for machine in SERVING:
            triples = slow_triples(machine)[0]
            parting = slow_parting(machine, triples)
            for side in (0, 1):
                ways = slow_ways(machine, side, triples, parting)
                expected = None if "lost" in ways else max(ways, default=0)
                self.assertEqual(longest_way(machine, side), expected, (machine, side))
                lost = lost_letter(machine, side)
                self.assertIs(lost is None, "lost" not in ways)
                if lost is not None:
                    self.is_lost(machine, parting, side, lost)
                told[expected] = told.get(expected, 0) + 1
        self.assertGreater(told[None], 50)
        self.assertGreaterEqual(set(told), {None, 0, 1, 2, 3, 5})

    def test_ways_to_triples_that_do_not_part(self):
        # One letter goes on through three standings that all do the same: it has nothing to take back.
        same = (((0,),), ((0,),), tuple((((min(at + 1, 2), ()),), ((at, ()),)) for at in range(3)))
        self.assertEqual([longest_way(same, 0), lost_letter(same, 0), longest_way(same, 1)], [0, None, 0])
        # The other side's letters could take it back, but they are not asked.
        other = (((1, -1),), ((0, 0),), ((((0, ()),), ((0, ()),)),))
        self.assertEqual([longest_way(other, 0), lost_letter(other, 0)], [None, ((), (0, 0))])
        helping = (((1, -1), (0, 0)), ((0,),), ((((0, ()), (0, ())), ((0, (1,)),)),))
        self.assertEqual([longest_way(helping, 0), longest_way(helping, 1)], [1, None])
        hindered = (((1, -1), (-1, 0)), ((0,),), ((((0, ()), (0, ())), ((0, ()),)),))
        self.assertEqual([longest_way(hindered, 0), longest_way(hindered, 1)], [1, 0])

    def test_no_letter_is_let(self):
        self.assertEqual([longest_way(REFUSING, 0), longest_way(REFUSING, 1), lost_letter(REFUSING, 0)], [0, 0, None])
        self.assertEqual([longest_way(LEAST, 0), longest_way(LEAST, 1), lost_letter(LEAST, 1)], [0, 0, None])
        # Triples to which no row comes do not count.
        unreached = (((0, -1), (0, 0)), ((0,),), ((((0, ()), (0, ())), ((0, ()),)),))
        self.assertEqual([longest_way(unreached, 0), lost_letter(unreached, 0)], [0, None])

    def test_rows_that_are_too_long_to_be_told(self):
        for many, left, length in ((1, 0, 10), (3, 2, 32), (39, 2, 392), (40, 0, 400)):
            machine = climbing(many, left)
            row, letter = lost_letter(machine, 0)
            self.assertEqual((len(row), letter), (length, (0, 2)))
            self.assertEqual(slow_come_by(machine, row), ("at", (left, many, 0)))
            self.assertEqual([len(part) for part in lost_letter(turned(machine), 1)], [length, 2])
            self.assertIsNone(longest_way(machine, 0))
        for many, left in ((40, 1), (40, 2), (41, 0), (62, 2)):
            machine = climbing(many, left)
            self.too_many(400, lost_letter, machine, 0)
            self.too_many(400, lost_letter, turned(machine), 1)
            self.assertIsNone(longest_way(machine, 0))
        machine = climbing(3, 1)
        triples = slow_triples(machine)[0]
        self.is_lost(machine, slow_parting(machine, triples), 0, lost_letter(machine, 0))

    def test_greatest(self):
        self.assertEqual([longest_way(GREAT, 0), longest_way(GREAT, 1)], [1, 1])
        self.assertEqual([lost_letter(GREAT, 0), lost_letter(GREAT, 1)], [None, None])
        machine = mixing(4, [((1, 2, 3, 0), (1, 0, 2, 3), (0, 1, 3, 2))] * 2)
        self.assertEqual([lost_letter(machine, 0), lost_letter(machine, 1)], [None, None])
        self.assertGreater(longest_way(machine, 0), 3)
        # One ring of all triples: the one letter of the left side goes through 4 places, 63 standings and 3 places.
        rows = tuple(((((at + 1) % 63, (0,) if at == 62 else ()),), ((at, ()),)) for at in range(63))
        ring = (((1, 2, 3, 0),), ((1, 2, 0),), rows)
        self.assertEqual(len(slow_triples(ring)[0]), 4 * 63 * 3)
        self.assertEqual([longest_way(ring, 0), longest_way(ring, 1)], [4 * 63 * 3 - 1, 2])


class Errors(Asking):
    def test_order(self):
        for function in (longest_way, lost_letter):
            for value in BAD_MACHINES + odd_values():
                self.refused(InvalidMachine, function, value, None)
                self.refused(InvalidMachine, function, value, 0)
            for machine in (A, F):
                for value in [2, -1, True, False, None, "0", (0,), [0], 10 ** 119] + odd_values():
                    self.refused(InvalidSide, function, machine, value)
            self.refused(NotServing, function, F, 0)
            self.refused(NotServing, function, F, 1)


if __name__ == "__main__":
    unittest.main()
