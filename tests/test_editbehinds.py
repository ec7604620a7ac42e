import unittest
from itertools import product

from puttingback.editalikes import parting_row
from puttingback.editbehinds import failing_behind, put_behind
from puttingback.editmachines import failing_row, is_machine
from puttingback.errors import Failing, InvalidMachine, Unfitting
from tests.asking import Asking
from tests.chance import Chance
from tests.machinesamples import (A, F, GREAT, H, LEAST, REFUSING, copying, counting, mark_at, mixing, shuffled, slow_step,
                                  slow_triples, standings, turned)
from tests.test_editmachines import BAD_MACHINES
from tests.values import odd_values

START = (0, 0, 0, 0, 0)


def outer_letters(one, other):
    """Return the letters of both outer sides, in order."""
    return [(0, edit) for edit in range(len(one[0]))] + [(1, edit) for edit in range(len(other[1]))]


def slow_both(one, other, places, letter):
    """Return what comes of a letter done at two machines behind one another."""
    left, standing, between, beyond, right = places
    side, edit = letter
    if side == 0:
        if one[0][edit][left] == -1:
            return "refused"
        left = one[0][edit][left]
        standing, answer = one[2][standing][0][edit]
        for answered in answer:
            came = slow_step(other, (between, beyond, right), (0, answered))
            if isinstance(came, str):
                return "failed"
            between, beyond, right = came
    else:
        if other[1][edit][right] == -1:
            return "refused"
        right = other[1][edit][right]
        beyond, answer = other[2][beyond][1][edit]
        for answered in answer:
            came = slow_step(one, (left, standing, between), (1, answered))
            if isinstance(came, str):
                return "failed"
            left, standing, between = came
    return (left, standing, between, beyond, right)


def slow_ends(one, other, row):
    """Return what comes of all letters of a row, one behind the other."""
    ends = [START]
    for letter in row:
        if not isinstance(ends[-1], str):
            ends.append(slow_both(one, other, ends[-1], letter))
    return ends


def all_both(one, other):
    """Return the list of all places to which rows come, and whether some row fails."""
    found, fails = [START], False
    for places in found:
        for letter in outer_letters(one, other):
            came = slow_both(one, other, places, letter)
            fails = fails or came == "failed"
            if not isinstance(came, str) and came not in found:
                found.append(came)
    return found, fails


def fitting(many, edits, places, holes):
    """Return many pairs of machines that fit."""
    found = [(A, A), (A, F), (F, turned(F)), (H, turned(H)), (turned(H), H), (LEAST, LEAST), (REFUSING, turned(REFUSING)),
             (turned(REFUSING), REFUSING), (copying(F[0]), F)]
    for seed in range(many):
        chance = Chance(seed)
        sides = []
        for _ in range(3):
            here = 1 + chance.below(places)
            sides.append(tuple(tuple(chance.below(here) if chance.below(holes) else -1 for _ in range(here))
                               for _ in range(1 + chance.below(edits))))
        found.append(tuple((own, other, standings(chance, (own, other), 1 + chance.below(3)))
                           for own, other in zip(sides, sides[1:])))
    return found


PAIRS = fitting(300, 2, 3, 9) + fitting(100, 3, 4, 3)


def rings(many, other_many, places=1):
    """Return two machines, with as many standings as told, that go round by their outer letters, and so many places between."""
    side = ((0,),)
    between = (tuple((place + 1) % places for place in range(places)),)
    one = (side, between, tuple(((((at + 1) % many, (0,)),), ((at, ()),)) for at in range(many)))
    other = (between, side, tuple((((at, ()),), (((at + 1) % other_many, ()),)) for at in range(other_many)))
    return one, other


def answering(many):
    """Return a machine that answers each edit of one side by so many on the other one."""
    return (((1, 0),), ((1, 0),), ((((0, (0,) * many),), ((0, (0,) * many),)),))


class Examples(Asking):
    def test_as_they_stand(self):
        self.assertEqual([failing_behind(A, A), failing_behind(A, F), parting_row(put_behind(A, A), A)],
                         [None, ((0, 0), (0, 0)), None])


class FailingBehind(Asking):
    def test_against_all_rows(self):
        told = {}
        for one, other in PAIRS:
            row = failing_behind(one, other)
            self.assertIs(row is None, not all_both(one, other)[1])
            if row is not None:
                self.assertEqual(slow_ends(one, other, row)[-1], "failed")
                longest = min(len(row), 4)
                rows = [short for length in range(longest + 1)
                        for short in product(outer_letters(one, other), repeat=length)
                        if slow_ends(one, other, short)[-1] == "failed" and len(slow_ends(one, other, short)) == length + 1]
                self.assertEqual(rows[:1], [row] if len(row) <= 4 else [])
            told[row and len(row)] = told.get(row and len(row), 0) + 1
        self.assertGreaterEqual(min(told[length] for length in (None, 1, 2, 3)), 3)

    def test_a_machine_that_fails_by_itself_may_not_fail_behind_another_one(self):
        # The other one answers nothing, so that the right side of the one that fails never does anything.
        silent = (F[1], ((0,),), ((((0, ()),), ((0, ()),)),))
        self.assertIsNotNone(failing_row(turned(F)))
        self.assertIsNone(failing_behind(turned(F), (F[0], ((0,),), ((((0, ()),), ((0, ()),)),))))
        self.assertEqual(failing_behind(F, silent), failing_row(F))

    def test_copies_fail_where_the_machine_does(self):
        for machine in (F, GREAT, counting(mark_at(30), (1,), True), counting(mark_at(12), (2, 1), True)):
            row = failing_row(machine)
            self.assertEqual(failing_behind(copying(machine[0]), machine), row)
            self.assertEqual(failing_behind(machine, copying(machine[1])), row)

    def test_rows_that_are_too_long_to_be_told(self):
        for many in (0, 57, 398, 399):
            machine = counting(mark_at(many), (1,), True)
            for one, other in ((copying(machine[0]), machine), (machine, copying(machine[1]))):
                self.assertEqual(failing_behind(one, other), ((0, 0),) * many + ((1, 0),))
        for many in (400, 401, 755):
            machine = counting(mark_at(many), (1,), True)
            self.too_many(400, failing_behind, copying(machine[0]), machine)
            self.too_many(400, failing_behind, machine, copying(machine[1]))


class PutBehind(Asking):
    def comes_alike(self, machine, one, other):
        """Hold that a machine is one, serves, and comes to the places to which two behind one another come."""
        self.assertTrue(is_machine(machine))
        self.assertEqual(machine[:2], (one[0], other[1]))
        self.assertIs(slow_triples(machine)[1], False)
        found = [((0, 0, 0), START)]
        known = set(found)
        for triple, places in found:
            self.assertEqual(triple[::2], places[::4])
            for letter in outer_letters(one, other):
                ends = (slow_step(machine, triple, letter), slow_both(one, other, places, letter))
                if ends[0] == "refused":
                    self.assertEqual(ends[1], "refused")
                elif ends not in known:
                    known.add(ends)
                    found.append(ends)

    def test_against_all_rows(self):
        told = {"put": 0, "failing": 0}
        for one, other in PAIRS:
            if all_both(one, other)[1]:
                self.refused(Failing, put_behind, one, other)
                told["failing"] += 1
            else:
                self.comes_alike(put_behind(one, other), one, other)
                told["put"] += 1
        self.assertGreater(min(told.values()), 100)

    def test_answers_of_four_edits_and_of_five(self):
        machine = put_behind(answering(4), answering(4))
        self.assertEqual(max(len(answer) for told in machine[2][0] for _, answer in told), 16)
        self.comes_alike(machine, answering(4), answering(4))
        for one, other in ((5, 4), (4, 5), (5, 5), (16, 0), (0, 16)):
            self.too_many(4, put_behind, answering(one), answering(other))
            self.assertIsNone(failing_behind(answering(one), answering(other)))
        # An answer with more edits bars also where no row comes to it.
        for side in (0, 1):
            told = (((0, ()),), ((0, ()),))
            more = told[:side] + (((1, (0,) * 5),),) + told[side + 1:]
            unreached = A[:2] + (A[2] + (more,),)
            self.too_many(4, put_behind, unreached, A)
            self.too_many(4, put_behind, A, unreached)
            # It is told ahead of the failing.
            self.too_many(4, put_behind, unreached, F)

    def test_64_triples_and_more(self):
        for many, other_many, places in ((64, 1, 1), (1, 64, 1), (8, 8, 1), (2, 32, 1), (63, 1, 1), (16, 2, 2), (8, 2, 4)):
            one, other = rings(many, other_many, places)
            self.assertEqual(len(put_behind(one, other)[2]), many * other_many * max(1, places if many % places else 1))
            self.comes_alike(put_behind(one, other), one, other)
        for many, other_many, places in ((5, 13, 1), (13, 5, 1), (64, 2, 1), (2, 64, 1), (64, 64, 1), (33, 1, 2), (17, 1, 4)):
            one, other = rings(many, other_many, places)
            self.assertGreater(len({end[1:4] for end in all_both(one, other)[0]}) if many < 64 > other_many else 65, 64)
            self.too_many(64, put_behind, one, other)
        # Failing is told ahead of it.
        one, other = rings(64, 2)
        between = ((-1,),)
        failing = tuple(((((at + 1) % 64, (0,) if at == 63 else ()),), ((at, ()),)) for at in range(64))
        self.refused(Failing, put_behind, (one[0], between, failing), (between,) + other[1:])
        self.assertEqual(failing_behind((one[0], between, failing), (between,) + other[1:]), ((0, 0),) * 64)

    def test_copies_do_the_same(self):
        for machine in (A, H, turned(H), LEAST, REFUSING):
            for one, other in ((copying(machine[0]), machine), (machine, copying(machine[1]))):
                self.assertIsNone(parting_row(put_behind(one, other), machine))

    def test_greatest(self):
        self.assertIsNone(failing_behind(GREAT, GREAT))
        self.too_many(4, put_behind, GREAT, GREAT)
        # Rows come to nearly all left places, standings, places between, standings and right places that there can be.
        chance = Chance(1)
        sides = [tuple(shuffled(chance, 4) for _ in range(3)) for _ in range(3)]
        one, other = mixing(2, sides[:2]), mixing(3, sides[1:])
        self.assertIsNone(failing_behind(one, other))
        self.too_many(4, put_behind, one, other)
        short = GREAT[:2] + (tuple(tuple(tuple((told, answer[:4]) for told, answer in row) for row in standing)
                                   for standing in GREAT[2]),)
        self.assertIsNone(failing_behind(short, short))
        self.too_many(64, put_behind, short, short)
        few = GREAT[:2] + (tuple(tuple(tuple((told % 4, answer) for told, answer in row) for row in standing)
                                 for standing in short[2][:4]),)
        machine = put_behind(few, few)
        self.assertLessEqual(len(machine[2]), 64)
        self.comes_alike(machine, few, few)


class Errors(Asking):
    def test_order(self):
        for function in (failing_behind, put_behind):
            for value in BAD_MACHINES + odd_values():
                self.refused(InvalidMachine, function, value, None)
                self.refused(InvalidMachine, function, value, A)
                self.refused(InvalidMachine, function, A, value)
            for one, other in ((A, H), (H, H), (LEAST, A), (F, A), (A, copying(A[0] * 2)), (answering(5), LEAST),
                               (GREAT, A), (F, F)):
                self.refused(Unfitting, function, one, other)
            self.assertIs(function(A, A) is None, function is failing_behind)
        self.refused(Failing, put_behind, A, F)


if __name__ == "__main__":
    unittest.main()
