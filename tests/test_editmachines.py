import unittest

from puttingback.editmachines import come_by, failing_row, is_machine, is_serving_lot, serving_lot
from puttingback.errors import InvalidMachine, InvalidRow
from tests.asking import Asking
from tests.machinesamples import (A, F, GREAT, H, LEAST, REFUSING, counting, letters, machines, mark_at, rows_of, serving,
                                  slow_come_by, slow_step, slow_triples)
from tests.values import disturbed, odd_values, places_of, replaced, spoiled, value_at

NO = ((0, ()),)
BAD_MACHINES = [A[:2], A + (0,), ((), A[1], A[2]), (A[0] * 4, A[1], (((A[2][0][0] * 4), A[2][0][1]),)), (A[0], A[1] * 4, ((A[2][0][0], A[2][0][1] * 4),)), (((),), A[1], A[2]), (((0,) * 5,), A[1], A[2]),
                (((1, 0), (0,)), A[1], ((((0, ()),) * 2, NO),)), (((2, 0),), A[1], A[2]), (((-2, 0),), A[1], A[2]),
                (A[0], A[1], ()), (A[0], A[1], A[2] * 65), (A[0], A[1], ((NO,),)), (A[0], A[1], ((NO, NO, NO),)),
                (A[0], A[1], ((NO * 2, NO),)), (A[0], A[1], ((NO, NO * 2),)), (A[0], A[1], ((((1, ()),), NO),)),
                (A[0], A[1], ((NO, ((-1, ()),)),)), (A[0], A[1], ((((0, (1,)),), NO),)), (A[0], A[1], ((NO, ((0, (-1,)),)),)),
                (A[0], A[1], ((((0, (0,) * 17),), NO),)), (A[0], A[1], ((((0, (), ()),), NO),)), (A[0], A[1], ((((0,),), NO),)),
                list(A), None, 0, ()]


def slow_is_machine(value):
    """Return whether any value is a machine, read word by word."""
    def is_row(part, least, most):
        return type(part) is tuple and least <= len(part) <= most

    def is_number(part, least, limit):
        return type(part) is int and least <= part < limit

    if not is_row(value, 3, 3):
        return False
    for side in value[:2]:
        if not is_row(side, 1, 3) or not all(is_row(edit, 1, 4) and len(edit) == len(side[0]) for edit in side):
            return False
        if not all(is_number(place, -1, len(edit)) for edit in side for place in edit):
            return False
    if not is_row(value[2], 1, 64) or not all(is_row(standing, 2, 2) for standing in value[2]):
        return False
    for standing in value[2]:
        for told, own, other in zip(standing, value[:2], (value[1], value[0])):
            if not is_row(told, len(own), len(own)) or not all(is_row(pair, 2, 2) for pair in told):
                return False
            for following, answer in told:
                if not is_number(following, 0, len(value[2])) or not is_row(answer, 0, 16):
                    return False
                if not all(is_number(edit, 0, len(other)) for edit in answer):
                    return False
    return True


def slow_is_lot(machine, lot):
    """Return whether some triples are a serving lot, read word by word."""
    if list(lot) != sorted(set(lot)) or (0, 0, 0) not in lot:
        return False
    return all(slow_step(machine, triple, letter) in lot + ("refused",) for triple in lot for letter in letters(machine))


def all_triples(machine):
    """Return all triples of a machine, also those to which no rows come."""
    return [(left, standing, right) for left in range(len(machine[0][0])) for standing in range(len(machine[2]))
            for right in range(len(machine[1][0]))]


class Examples(Asking):
    def test_as_they_stand(self):
        self.assertEqual([come_by(A, ((0, 0), (1, 0))), come_by(F, ((1, 0), (1, 0))), failing_row(F), is_serving_lot(A, ((0, 0, 0),))],
                         [("at", (0, 0, 0)), ("refused", 1), ((0, 0), (0, 0)), False])


class Machines(Asking):
    def test_limits(self):
        three = (A[0] * 3, A[1] * 3, ((A[2][0][0] * 3, A[2][0][1] * 3),))
        for value in machines(50) + [three, GREAT, LEAST, REFUSING, counting((0, 0, 0), (2,), True)]:
            self.says(True, is_machine(value))
        for value in BAD_MACHINES:
            self.says(False, is_machine(value))
            self.says(False, slow_is_machine(value))

    def test_at_any_values(self):
        for value in odd_values():
            self.says(False, is_machine(value))
        for machine in (A, F, H):
            for value in spoiled(machine):
                self.says(False, is_machine(value))
            for value in disturbed(machine):
                self.says(slow_is_machine(value), is_machine(value))
            for path in places_of(machine):
                if isinstance(value_at(machine, path), int):
                    for number in range(-2, 4):
                        value = replaced(machine, path, number)
                        self.says(slow_is_machine(value), is_machine(value))


class Rows(Asking):
    def test_come_by(self):
        told = set()
        for machine in machines(100):
            for row in rows_of(machine, 4):
                expected = slow_come_by(machine, row)
                self.assertEqual(come_by(machine, row), expected)
                told.add(expected[0])
        self.assertEqual(told, {"at", "refused", "failed"})

    def test_failing_rows(self):
        lengths = set()
        for machine in machines(200):
            fails = slow_triples(machine)[1]
            row = failing_row(machine)
            self.assertIs(row is not None, fails)
            if row is not None and len(row) <= 5:
                failing = [one for one in rows_of(machine, len(row)) if slow_come_by(machine, one) == ("failed", len(one) - 1)]
                self.assertEqual(row, failing[0])
            lengths.add(len(row or ()))
        self.assertGreaterEqual(lengths, {0, 1, 2, 3})

    def test_rows_that_are_too_long_to_be_told(self):
        for many in (0, 1, 100, 399):
            machine = counting(mark_at(many), (2,), True)
            self.assertEqual(failing_row(machine), ((0, 0),) * many + ((1, 0),))
            self.assertIsNone(serving_lot(machine))
        for many in (400, 401, 755):
            machine = counting(mark_at(many), (2,), True)
            self.too_many(400, failing_row, machine)
            self.assertIsNone(serving_lot(machine))
            self.assertEqual(come_by(machine, ((0, 0),) * 400), ("at", mark_at(400)))

    def test_rows_of_letters(self):
        self.assertEqual([come_by(A, ()), come_by(A, ((0, 0),) * 400)], [("at", (0, 0, 0)), ("at", (0, 0, 0))])
        self.assertEqual(come_by(REFUSING, ((1, 0), (0, 0))), ("refused", 0))
        self.assertEqual([failing_row(REFUSING), serving_lot(REFUSING)], [None, ((0, 0, 0),)])


class Lots(Asking):
    def test_serving_lots(self):
        for machine in machines(200):
            lot = serving_lot(machine)
            self.assertIs(lot is None, failing_row(machine) is not None)
            if lot is not None:
                self.assertTrue(slow_is_lot(machine, lot))
                self.says(True, is_serving_lot(machine, lot))

    def test_is_serving_lot(self):
        told = {True: 0, False: 0}
        for machine in [one for one in machines(150) if len(all_triples(one)) <= 8]:
            triples = all_triples(machine)
            for chosen in range(2 ** len(triples)):
                lot = tuple(triple for at, triple in enumerate(triples) if chosen >> at & 1)
                expected = slow_is_lot(machine, lot)
                self.says(expected, is_serving_lot(machine, lot))
                told[expected] += 1
        self.assertGreater(min(told.values()), 100)

    def test_is_serving_lot_at_any_values(self):
        lot = ((0, 0, 0), (1, 0, 1))
        self.says(True, is_serving_lot(A, lot))
        for value in list(spoiled(lot)) + odd_values() + [lot[::-1], lot[:1] * 2 + lot[1:], lot + ((1, 1, 1),), lot + ((2, 0, 0),),
                                                           lot + ((1, 0, 2),), lot + ((1, 0, -1),), lot + ((1, 0, 1, 0),)]:
            self.says(False, is_serving_lot(A, value))
        for value in disturbed(lot):
            plain = isinstance(value, tuple) and value == lot and all(isinstance(triple, tuple) for triple in value)
            self.says(plain and not any(isinstance(number, bool) for triple in value for number in triple),
                      is_serving_lot(A, value))

    def test_greatest(self):
        triples, fails = slow_triples(GREAT)
        self.assertFalse(fails)
        self.assertEqual(serving_lot(GREAT), tuple(sorted(triples)))
        self.says(True, is_serving_lot(GREAT, tuple(sorted(all_triples(GREAT)))))
        self.assertEqual(len(all_triples(GREAT)), 1024)
        row = tuple((at % 2, at // 2 % 2) for at in range(400))
        self.assertEqual(come_by(GREAT, row), slow_come_by(GREAT, row))
        self.assertGreater(len(serving(machines(100))), 30)


class Errors(Asking):
    def test_order(self):
        for value in BAD_MACHINES + odd_values():
            self.refused(InvalidMachine, come_by, value, None)
            self.refused(InvalidMachine, failing_row, value)
            self.refused(InvalidMachine, serving_lot, value)
            self.refused(InvalidMachine, is_serving_lot, value, None)
        bad = [((0, 0),) * 401, ((0, 1),), ((1, 1),), ((2, 0),), ((-1, 0),), ((0, -1),), ((0,),), ((0, 0, 0),), (0, 0), [(0, 0)],
               ([0, 0],), ((0, 0), None), None]
        for value in bad + [value for value in odd_values() if value != ()] + list(spoiled(((0, 0), (1, 0)))):
            self.refused(InvalidRow, come_by, A, value)


if __name__ == "__main__":
    unittest.main()
