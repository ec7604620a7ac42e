import unittest
from itertools import combinations

from puttingback.editalikes import alike_lot, is_alike_lot, parting_row
from puttingback.editmachines import serving_lot
from puttingback.errors import InvalidMachine, NotServing, UnlikeSides
from tests.asking import Asking
from tests.chance import Chance
from tests.machinesamples import (A, F, GREAT, H, LEAST, counting, letters, machines, mark_at, rows_of, serving, slow_come_by,
                                  slow_step, standings)
from tests.test_editmachines import BAD_MACHINES
from tests.values import disturbed, odd_values, spoiled

OTHER = (A[0], A[1], ((((0, ()),), ((0, (0,)),)),))


def renamed(machine, chance):
    """Return the machine with its standings in another order, and each one twice, so that it does the same."""
    many = len(machine[2])
    names = sorted(range(2 * many), key=lambda at: (at > 0, chance.below(1000)))
    place = {name: at for at, name in enumerate(names)}
    rows = []
    for name in names:
        rows.append(tuple(tuple((place[following + many * chance.below(2)], answer) for following, answer in told)
                          for told in machine[2][name % many]))
    return machine[0], machine[1], tuple(rows)


def pairs():
    """Return pairs of serving machines with the same sides: alike ones, such with one answer changed, and any ones."""
    found = [(A, A), (A, OTHER), (H, H)]
    for seed, machine in enumerate(serving(machines(120, 2, 2, 3, 12))):
        chance = Chance(seed)
        other = renamed(machine, chance)
        found += [(machine, other), (other, machine)]
        at = chance.below(len(other[2]))
        left, right = other[2][at]
        changed = ((left[0][0], left[0][1] + (0,)),) + left[1:]
        found.append((machine, (machine[0], machine[1], other[2][:at] + ((changed, right),) + other[2][at + 1:])))
        found.append((machine, (machine[0], machine[1], standings(chance, machine[:2], 2))))
    return [pair for pair in found if len(serving(pair)) == 2]


PAIRS = pairs()


def places(machine, row):
    """Return the places to which a row comes, or None if it is not let."""
    word, triple = slow_come_by(machine, row)
    return (triple[0], triple[2]) if word == "at" else None


def slow_is_lot(one, other, lot):
    """Return whether some quadruples are an alike lot, read word by word."""
    if list(lot) != sorted(set(lot)) or (0, 0, 0, 0) not in lot:
        return False
    for left, standing, other_standing, right in lot:
        for letter in letters(one):
            came = slow_step(one, (left, standing, right), letter)
            beside = slow_step(other, (left, other_standing, right), letter)
            if came == "refused":
                continue
            if "failed" in (came, beside) or (came[0], came[1], beside[1], came[2]) not in lot or came[::2] != beside[::2]:
                return False
    return True


def quadruples(one, other):
    """Return all quadruples of two machines."""
    return [(left, standing, beside, right) for left in range(len(one[0][0])) for standing in range(len(one[2]))
            for beside in range(len(other[2])) for right in range(len(one[1][0]))]


class Examples(Asking):
    def test_as_they_stand(self):
        self.assertEqual([parting_row(A, A), is_alike_lot(A, A, ((0, 0, 0, 0),)), parting_row(A, OTHER)], [None, False, ((0, 0),)])


class Alike(Asking):
    def test_parting_rows(self):
        lengths = {}
        for one, other in PAIRS:
            row = parting_row(one, other)
            longest = len(row) if row else 5
            if longest <= 5 and len(letters(one)) ** longest <= 1100:
                parting = [rows for rows in rows_of(one, longest) if places(one, rows) != places(other, rows)]
                self.assertEqual(row, parting[0] if parting else None)
            lengths[longest if row else 0] = True
        self.assertGreaterEqual(set(lengths), {0, 1, 2, 3})

    def test_alike_lots(self):
        for one, other in PAIRS:
            lot = alike_lot(one, other)
            # Two machines leave the same things behind all rows just if there is an alike lot of them.
            self.assertIs(lot is None, parting_row(one, other) is not None)
            if lot is not None:
                self.assertTrue(slow_is_lot(one, other, lot))
                self.says(True, is_alike_lot(one, other, lot))

    def test_is_alike_lot(self):
        told = {True: 0, False: 0}
        for one, other in PAIRS:
            all_of = quadruples(one, other)
            lots = [()] + [tuple(lot) for length in (1, 2) for lot in combinations(all_of, length)][:40]
            lots += [tuple(sorted(all_of)), tuple(all_of[:-1])]
            lot = alike_lot(one, other)
            if lot is not None:
                lots += [lot[:at] + lot[at + 1:] for at in range(len(lot))]
                lots += [tuple(sorted(set(lot) | {more})) for more in all_of[::3]]
            for lot in lots:
                expected = slow_is_lot(one, other, lot)
                self.says(expected, is_alike_lot(one, other, lot))
                told[expected] += 1
        self.assertGreater(min(told.values()), 100)

    def test_where_one_fails_beside_what_comes(self):
        # At a standing to which no rows come, the answer is refused: no alike lot has a quadruple of it.
        one = (((0, 0),), ((-1,), (0,)), ((((0, ()),), ((0, ()),) * 2), (((1, (0,)),), ((1, ()),) * 2)))
        lot = alike_lot(one, one)
        self.assertEqual(lot, ((0, 0, 0, 0),))
        for more in ((0, 1, 1, 0), (0, 0, 1, 0), (0, 1, 0, 0)):
            self.says(False, is_alike_lot(one, one, lot + (more,)))
        self.says(False, is_alike_lot(one, one, lot + ((1, 0, 1, 0),)))
        self.says(True, is_alike_lot(one, one, lot + ((1, 0, 0, 0),)))

    def test_is_alike_lot_at_any_values(self):
        lot = alike_lot(A, A)
        for value in list(spoiled(lot)) + odd_values() + [lot[::-1], lot * 2, lot + ((2, 0, 0, 0),), lot + ((1, 0, 0, 2),), lot[:1],
                                                           lot + ((1, 0, 0, 1, 0),), lot + ((1, 0, 1),)]:
            self.says(False, is_alike_lot(A, A, value))
        for value in disturbed(lot):
            plain = value == lot and not any(isinstance(part, bool) for places in value for part in places)
            self.says(plain, is_alike_lot(A, A, value))

    def test_rows_that_are_too_long_to_be_told(self):
        for many in (0, 7, 399, 400, 401, 755):
            one, other = counting(mark_at(many), (2,), False), counting(mark_at(many), (), False)
            if many < 400:
                self.assertEqual(parting_row(one, other), ((0, 0),) * many + ((1, 0),))
            else:
                self.too_many(400, parting_row, one, other)
            self.assertIsNone(alike_lot(one, other))

    def test_greatest(self):
        other = (GREAT[0], GREAT[1], tuple((tuple(((standing * 3 + edit) % 64, told[0][edit][1]) for edit in range(3)),
                                            tuple(((standing + edit * 11) % 64, told[1][edit][1]) for edit in range(3)))
                                           for standing, told in enumerate(GREAT[2])))
        self.assertIsNone(parting_row(GREAT, other))
        lot = alike_lot(GREAT, other)
        self.assertGreater(len(lot), 30000)
        self.says(True, is_alike_lot(GREAT, other, lot))
        self.says(False, is_alike_lot(GREAT, other, lot[:-1]))


class Errors(Asking):
    def test_order(self):
        for value in BAD_MACHINES:
            self.refused(InvalidMachine, parting_row, value, None)
            self.refused(InvalidMachine, alike_lot, value, None)
            self.refused(InvalidMachine, is_alike_lot, value, None, None)
            self.refused(InvalidMachine, parting_row, value, A)
            self.refused(InvalidMachine, alike_lot, value, A)
            self.refused(InvalidMachine, is_alike_lot, value, A, None)
            for one in (A, F):
                self.refused(InvalidMachine, parting_row, one, value)
                self.refused(InvalidMachine, alike_lot, one, value)
                self.refused(InvalidMachine, is_alike_lot, one, value, None)
        for one, other in [(F, A), (A, F), (F, F), (F, LEAST), (LEAST, F)]:
            self.assertIs(serving_lot(F), None)
            self.refused(NotServing, parting_row, one, other)
            self.refused(NotServing, alike_lot, one, other)
            self.refused(NotServing, is_alike_lot, one, other, None)
        for one, other in [(A, LEAST), (H, A), (A, H), ((A[0], LEAST[1], A[2]), A), ((A[0] * 2, A[1], ((((0, (0,)),) * 2, A[2][0][1]),)), A)]:
            self.refused(UnlikeSides, parting_row, one, other)
            self.refused(UnlikeSides, alike_lot, one, other)
            self.refused(UnlikeSides, is_alike_lot, one, other, None)


if __name__ == "__main__":
    unittest.main()
