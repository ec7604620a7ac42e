import unittest

from puttingback.editforgets import exchange_row, forgets_by, kept_rows
from puttingback.errors import InvalidLetter, InvalidMachine, NotServing
from tests.asking import Asking
from tests.machinesamples import (A, F, GREAT, H, LEAST, REFUSING, counting, letters, machines, mark_at, rows_of, serving,
                                  slow_come_by, slow_parting, slow_step, slow_triples, wandering)
from tests.test_editmachines import BAD_MACHINES
from tests.values import odd_values, spoiled

SERVING = serving(machines(250, 2, 3, 3, 12))


def can_exchange(machine, parting, triple, letter, second):
    """Return whether two letters can be exchanged at a triple."""
    ends = []
    for row in ((letter, second), (second, letter)):
        came = triple
        for one in row:
            came = came if came == "refused" else slow_step(machine, came, one)
        ends.append(came)
    if "refused" in ends:
        return ends[0] == ends[1]
    return tuple(ends) not in parting


def is_kept(machine, rows):
    """Return whether three rows tell what is kept, read word by word."""
    if len(rows) != 3 or any(len(row) > 400 for row in rows):
        return False
    one, other, behind = rows
    ends = [slow_come_by(machine, row) for row in (one, other, one + behind, other + behind)]
    if any(end[0] != "at" for end in ends):
        return False
    places = [end[1][::2] for end in ends]
    return places[0] == places[1] and places[2] != places[3]


class Examples(Asking):
    def test_as_they_stand(self):
        self.assertEqual([forgets_by(A)[0], forgets_by(H), exchange_row(H, (0, 0), (1, 0)), kept_rows(A)],
                         [(0, 0, (0, 0), 1, 1), None, None, None])


class Forgetting(Asking):
    def test_machines_that_forget(self):
        told = {True: 0, False: 0}
        for machine in SERVING:
            triples = slow_triples(machine)[0]
            parting = slow_parting(machine, triples)
            forgets = not any(one[::2] == other[::2] for one, other in parting)
            come = set()
            for triple in triples:
                for letter in letters(machine):
                    came = slow_step(machine, triple, letter)
                    if came != "refused":
                        come.add(triple[::2] + (letter,) + came[::2])
            self.assertEqual(forgets_by(machine), sorted(come) if forgets else None)
            # What is kept beside the two things can be left out just if no two triples with the same things part.
            rows = kept_rows(machine)
            self.assertIs(rows is None, forgets)
            self.assertTrue(rows is None or is_kept(machine, rows), (machine, rows))
            told[forgets] += 1
        self.assertGreater(min(told.values()), 30)

    def test_rows_that_are_too_long_to_be_told(self):
        # Of two triples that part here, one is at least half the way to the last standing away, or needs this way.
        for many, left in ((2, 1), (2, 3), (10, 2), (61, 3), (62, 1), (62, 2)):
            self.assertTrue(is_kept(wandering(many, left), kept_rows(wandering(many, left))))
        self.assertEqual(max(map(len, kept_rows(wandering(62, 2)))), 400)
        for many, left in ((62, 3), (63, 1), (63, 3)):
            self.too_many(400, kept_rows, wandering(many, left))
            self.assertIsNone(forgets_by(wandering(many, left)))

    def test_greatest(self):
        self.assertEqual(len(forgets_by(GREAT)), len({row[:3] for row in forgets_by(GREAT)}))
        self.assertIsNone(kept_rows(GREAT))
        told = GREAT[2][63]
        keeping = GREAT[:2] + (GREAT[2][:63] + ((told[0], ((told[1][0][0], (0,)),) + told[1][1:]),),)
        self.assertIsNone(forgets_by(keeping))
        self.assertTrue(is_kept(keeping, kept_rows(keeping)))

    def test_least(self):
        self.assertEqual([forgets_by(LEAST), kept_rows(LEAST), forgets_by(REFUSING), kept_rows(REFUSING)],
                         [[(0, 0, (0, 0), 0, 0), (0, 0, (1, 0), 0, 0)], None, [], None])


class Exchanging(Asking):
    def test_against_all_rows(self):
        lengths = set()
        for machine in SERVING:
            triples = slow_triples(machine)[0]
            parting = slow_parting(machine, triples)
            for letter in letters(machine):
                for second in letters(machine):
                    row = exchange_row(machine, letter, second)
                    good = {triple for triple in triples if can_exchange(machine, parting, triple, letter, second)}
                    self.assertIs(row is None, len(good) == len(triples))
                    if row is not None and len(row) <= 4:
                        bad = [one for one in rows_of(machine, len(row)) if slow_come_by(machine, one)[0] == "at"
                               and slow_come_by(machine, one)[1] not in good]
                        self.assertEqual(row, bad[0])
                        lengths.add(len(row))
        self.assertGreaterEqual(lengths, {0, 1, 2})

    def test_a_letter_with_itself(self):
        for machine in SERVING[:20] + [GREAT]:
            for letter in letters(machine):
                self.assertIsNone(exchange_row(machine, letter, letter))

    def test_rows_that_are_too_long_to_be_told(self):
        for many in (0, 1, 57, 399, 400):
            self.assertEqual(exchange_row(counting(mark_at(many), (2,), False), (1, 0), (0, 1)), ((0, 0),) * many)
        for many in (401, 755):
            self.too_many(400, exchange_row, counting(mark_at(many), (2,), False), (0, 1), (1, 0))

    def test_greatest(self):
        # This machine forgets, so that triples part just if they have other places.
        triples = slow_triples(GREAT)[0]
        told = set()
        for letter, second in [((0, 0), (0, 1)), ((0, 0), (1, 0)), ((0, 2), (1, 2)), ((1, 1), (1, 2))]:
            row = exchange_row(GREAT, letter, second)
            for triple in triples if row is None else [slow_come_by(GREAT, row)[1]]:
                ends = []
                for one, other in ((letter, second), (second, letter)):
                    came = slow_step(GREAT, triple, one)
                    came = came if came == "refused" else slow_step(GREAT, came, other)
                    ends.append(came if came == "refused" else came[::2])
                self.assertIs(ends[0] == ends[1], row is None)
            told.add(row is None)
        self.assertEqual(told, {True, False})


class Errors(Asking):
    def test_order(self):
        for value in BAD_MACHINES + odd_values():
            self.refused(InvalidMachine, forgets_by, value)
            self.refused(InvalidMachine, kept_rows, value)
            self.refused(InvalidMachine, exchange_row, value, None, None)
        bad = [(0, 1), (1, 1), (2, 0), (-1, 0), (0, -1), (0,), (0, 0, 0), [0, 0], 0, "00", None]
        for machine in (A, F):
            for value in bad + [value for value in odd_values() if value != (0, 0)] + list(spoiled((0, 0))):
                self.refused(InvalidLetter, exchange_row, machine, value, None)
                self.refused(InvalidLetter, exchange_row, machine, value, (0, 0))
                self.refused(InvalidLetter, exchange_row, machine, (0, 0), value)
        self.refused(NotServing, forgets_by, F)
        self.refused(NotServing, kept_rows, F)
        self.refused(NotServing, exchange_row, F, (0, 0), (0, 0))


if __name__ == "__main__":
    unittest.main()
