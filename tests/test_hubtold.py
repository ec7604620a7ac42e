import unittest
from itertools import product

from puttingback.errors import InvalidHub, InvalidLot
from puttingback.hubtold import class_paper, is_class_paper, is_never_told, told_row
from tests.asking import Asking
from tests.hubsamples import (APART, GREAT, H, HIGH, LEAST, LOW, NEVER, changes, hubs, lots, meeting, nearly_apart,
                              rows_of, slow_do, slow_hears, things, watching)
from tests.test_hubs import BAD_HUBS
from tests.values import disturbed, odd_values, spoiled


def own(hub, lot):
    """Return the changes of a lot's views."""
    return changes(hub, lot)


def strange(hub, lot):
    """Return the changes of the other views."""
    return [change for change in changes(hub) if change[0] not in lot]


def slow_never_told(hub, lot, longest):
    """Return whether a lot hears the same of all rows of at most so many changes as without the strange ones."""
    for row in rows_of(changes(hub), longest):
        kept = tuple(change for change in row if change[0] in lot)
        if any(slow_hears(hub, lot, at, row) != slow_hears(hub, lot, at, kept) for at in things(hub)):
            return False
    return True


def slow_is_paper(hub, lot, paper):
    """Return whether a row of integers is a class paper, read word by word."""
    for one, other in product(things(hub), things(hub)):
        if paper[one] == paper[other]:
            if any(hub[view][0][one] != hub[view][0][other] for view in lot):
                return False
            for change in own(hub, lot):
                (end, answer), (other_end, other_answer) = slow_do(hub, one, (change,)), slow_do(hub, other, (change,))
                if answer != other_answer or paper[end] != paper[other_end]:
                    return False
    return all(paper[slow_do(hub, at, (change,))[0]] == paper[at] for change in strange(hub, lot) for at in things(hub))


def tells(hub, lot, at, change, row):
    """Return whether a lot hears unlike things of a row from a thing, and from the one to which a strange change comes."""
    end = slow_do(hub, at, (change,))[0]
    return slow_hears(hub, lot, at, row) != slow_hears(hub, lot, end, row)


def shortest_told(hub, lot, longest):
    """Return the least length of a row of at most so many own changes by which a lot is told, or None."""
    for row in rows_of(own(hub, lot), longest):
        if any(tells(hub, lot, at, change, row) for at in things(hub) for change in strange(hub, lot)):
            return len(row)
    return None


class Examples(Asking):
    def test_as_they_stand(self):
        self.assertEqual([class_paper(H, (0,)) is None, is_class_paper(H, (0,), (5, 5, 2, 2)), is_never_told(H, (1,)), told_row(H, (0, 1))],
                         [False, True, False, None])


class Telling(Asking):
    def check(self, hub, lot):
        """Hold all that is told of a lot, and return the length of the row that is told, or None."""
        longest = min(len(things(hub)), 5 if len(own(hub, lot)) < 4 else 3)
        length = shortest_told(hub, lot, longest)
        self.says(length is None, is_never_told(hub, lot))
        told = told_row(hub, lot)
        if length is None:
            self.assertIsNone(told)
            paper = class_paper(hub, lot)
            self.assertTrue(slow_is_paper(hub, lot, paper))
            self.says(True, is_class_paper(hub, lot, paper))
        else:
            self.assertIsNone(class_paper(hub, lot))
            at, change, row = told
            self.assertTrue(at in things(hub) and change in strange(hub, lot) and set(row) <= set(own(hub, lot)))
            self.assertTrue(tells(hub, lot, at, change, row))
            self.assertEqual(len(row), length)
        return length

    def test_against_all_rows(self):
        lengths = {}
        for hub in hubs(60) + nearly_apart(30) + meeting(20) + watching(40):
            for lot in lots(hub):
                length = self.check(hub, lot)
                lengths[length] = lengths.get(length, 0) + 1
                if len(things(hub)) < 4 and len(changes(hub)) < 5:
                    # Never told just if all rows tell the same as without the strange changes.
                    self.assertIs(slow_never_told(hub, lot, 4), length is None)
                    # If it is told, no row of classes is a paper.
                    papers = [paper for paper in product(things(hub), repeat=len(things(hub))) if slow_is_paper(hub, lot, paper)]
                    self.assertIs(papers == [], length is not None)
        self.assertGreater(min(lengths[length] for length in (None, 0, 1, 2)), 5)

    def test_long_rows(self):
        # One view goes on through 12 things, of which it sees the last one alone; another one jumps between two of them.
        onward = (tuple(int(at == 11) for at in range(12)), tuple((min(at + 1, 11), None) for at in range(12)))
        for one, other in ((0, 1), (3, 7), (9, 10), (0, 11), (10, 11)):
            jumps = ((0,) * 12, tuple((other if at == one else at,) for at in range(12)))
            at, change, row = told_row((onward, jumps), (0,))
            self.assertEqual((at, change, len(row)), (one, (1, 0), 11 - other))
            self.assertTrue(tells((onward, jumps), (0,), at, change, row))
            self.assertEqual(told_row((jumps, onward), (1,))[:2], (one, (0, 0)))
        # An answer tells as what is shown does.
        refusing = ((0,) * 12, tuple((min(at + 1, 11) if at < 11 else None,) for at in range(12)))
        jumps = ((0,) * 12, tuple((1 if at == 0 else at,) for at in range(12)))
        self.assertEqual(told_row((refusing, jumps), (0,)), (0, (1, 0), ((0, 0),) * 11))

    def test_no_views_and_all(self):
        for hub in hubs(60) + [GREAT, APART]:
            every = tuple(range(len(hub)))
            for lot in ((), every):
                self.says(True, is_never_told(hub, lot))
                self.assertIsNone(told_row(hub, lot))
                self.assertTrue(slow_is_paper(hub, lot, class_paper(hub, lot)))
            self.says(True, is_class_paper(hub, (), (11,) * len(things(hub))))

    def test_views_that_never_meet(self):
        for hub in (APART, (HIGH, LOW), (HIGH, LOW, NEVER), LEAST):
            for lot in lots(hub):
                self.assertIsNone(self.check(hub, lot))

    def test_greatest(self):
        for lot in lots(GREAT):
            self.assertIs(is_never_told(GREAT, lot), len(lot) in (0, 4))
            if 0 < len(lot) < 4:
                at, change, row = told_row(GREAT, lot)
                self.assertTrue(tells(GREAT, lot, at, change, row))
                self.assertEqual(len(row), shortest_told(GREAT, lot, 2))


class Papers(Asking):
    def test_against_slow_ones(self):
        told = {True: 0, False: 0}
        for hub in hubs(60) + [(HIGH, LOW), (HIGH, LOW, NEVER)]:
            for lot in lots(hub):
                for paper in product((0, 3, 11), repeat=len(things(hub))):
                    expected = slow_is_paper(hub, lot, paper)
                    self.says(expected, is_class_paper(hub, lot, paper))
                    told[expected] += 1
        self.assertGreater(min(told.values()), 100)

    def test_integers_from_0_to_11(self):
        for paper in ((0, 0, 11, 11), (11, 11, 0, 0), (5, 5, 2, 2)):
            self.says(True, is_class_paper(H, (0,), paper))
        for paper in ((0, 0, 12, 12), (-1, -1, 0, 0), (0, 0, 1), (0, 0, 1, 1, 1), (0, 0, 0, 0), (0, 1, 2, 3), [0, 0, 1, 1]):
            self.says(False, is_class_paper(H, (0,), paper))

    def test_any_values(self):
        for value in odd_values() + list(spoiled((0, 0, 1, 1))):
            self.says(False, is_class_paper(H, (0,), value))
            self.says(False, is_class_paper(H, (), value))
            self.says(value == (0,), is_class_paper(LEAST, (0,), value))
        for value in disturbed((0, 0, 1, 1)):
            plain = type(value) is tuple and len(value) == 4 and all(type(one) is int and 0 <= one < 12 for one in value)
            self.says(plain and slow_is_paper(H, (0,), value), is_class_paper(H, (0,), value))


class Errors(Asking):
    def test_order(self):
        for function, more in ((is_never_told, ()), (class_paper, ()), (told_row, ()), (is_class_paper, (None,))):
            for value in BAD_HUBS + odd_values():
                self.refused(InvalidHub, function, value, None, *more)
                self.refused(InvalidHub, function, value, (), *more)
            for value in [(1, 0), (0, 0), (2,), (-1,), (True,), [0], (0, 1, 2), 0] + [one for one in odd_values()
                                                                                      if one not in ((), (0,))]:
                self.refused(InvalidLot, function, H, value, *more)


if __name__ == "__main__":
    unittest.main()
