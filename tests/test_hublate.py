import unittest
from itertools import product

from puttingback.errors import InvalidHub, InvalidNumber, InvalidSight
from puttingback.hublate import late_row, may_look_late
from tests.asking import Asking
from tests.hubsamples import (APART, GREAT, H, HIGH, LEAST, LOW, NEVER, changes, hubs, meeting, nearly_apart, rows_of,
                              slow_do, things, watching)
from tests.test_hubs import BAD_HUBS
from tests.values import odd_values, spoiled


def others(hub, view):
    """Return the changes of the other views."""
    return [change for change in changes(hub) if change[0] != view]


def sights(hub, view):
    """Return all sights of a view."""
    worths = len(hub[view][1][0])
    return list(product(range(worths), repeat=worths))


def looks_late(hub, view, sight, at, row):
    """Return whether the changes chosen ahead of a row and behind it come to unlike things or answers."""
    end = slow_do(hub, at, row)[0]
    chosen, later = [(view, sight[hub[view][0][seen]]) for seen in (at, end)]
    return slow_do(hub, end, (chosen,)) != slow_do(hub, end, (later,))


def shortest_late(hub, view, sight, longest):
    """Return the least length of a row of at most so many changes by which a sight may not look late, or None."""
    for row in rows_of(others(hub, view), longest):
        if any(looks_late(hub, view, sight, at, row) for at in things(hub)):
            return len(row)
    return None


class Examples(Asking):
    def test_as_they_stand(self):
        H = (U, V) = (((0, 0, 1, 1), ((0, 2), (1, 3), (0, 2), (1, 3))), ((0, 1, 1, 0), ((0, 1), (0, None), (3, 2), (3, 2))))
        self.assertEqual([may_look_late(H, 0, (1, 0)), late_row(H, 1, (1, 0)) in
                          ((0, ((0, 1),)), (1, ((0, 1),)), (2, ((0, 0),)), (3, ((0, 0),)))], [True, True])


class Late(Asking):
    def check(self, hub, view, sight, longest):
        """Hold all that is told of a sight, and return the length of the row that is told, or None."""
        length = shortest_late(hub, view, sight, longest)
        self.says(length is None, may_look_late(hub, view, sight))
        told = late_row(hub, view, sight)
        if length is None:
            self.assertIsNone(told)
        else:
            at, row = told
            self.assertTrue(at in things(hub) and type(row) is tuple and set(row) <= set(others(hub, view)))
            self.assertTrue(looks_late(hub, view, sight, at, row))
            self.assertEqual(len(row), length)
        return length

    def test_against_all_rows(self):
        lengths = {}
        for hub in hubs(150, 3, 4, 2) + nearly_apart(60) + meeting(30) + watching(60):
            for view in range(len(hub)):
                for sight in sights(hub, view):
                    length = self.check(hub, view, sight, len(things(hub)) if len(hub) < 3 else 3)
                    lengths[length] = lengths.get(length, 0) + 1
        self.assertGreater(min(lengths[length] for length in (None, 1, 2, 3)), 5)

    def test_three_worths(self):
        for hub in hubs(30, 2, 3, 3):
            for view in range(len(hub)):
                for sight in sights(hub, view):
                    self.check(hub, view, sight, 3)

    def test_long_rows(self):
        # One view goes on through many things; the other one sees the last of these alone, and sets something by it.
        for many in range(2, 13):
            onward = ((0,) * many, tuple((min(at + 1, many - 1),) for at in range(many)))
            sees = (tuple(int(at == many - 1) for at in range(many)), tuple((at, None) for at in range(many)))
            self.assertEqual(late_row((onward, sees), 1, (0, 1)), (many - 2, ((0, 0),)))
            self.assertEqual(self.check((onward, sees), 1, (1, 0), 2), 1)
            self.assertIsNone(late_row((onward, sees), 1, (0, 0)))
            # It only matters at the last thing, and only if the first thing is what was seen.
            sees = ((0,) + (1,) * (many - 1), tuple((at, None if at == many - 1 else at) for at in range(many)))
            self.assertEqual(late_row((onward, sees), 1, (0, 1)), (0, ((0, 0),) * (many - 1)))

    def test_answers(self):
        # Both changes leave the thing, but one of them is refused.
        hub = (((0, 1), ((0, None), (1, None))), ((0, 0), ((1,), (0,))))
        self.assertEqual(self.check(hub, 0, (0, 1), 3), 1)
        self.assertIsNone(self.check(hub, 0, (1, 1), 3))

    def test_no_others(self):
        for hub in (LEAST, (HIGH,), (NEVER,), GREAT[:1]):
            for sight in sights(hub, 0):
                self.says(True, may_look_late(hub, 0, sight))
        # What another view never shows to this one it need not look at again.
        for view, hub in ((0, (HIGH, LOW)), (1, (HIGH, LOW, NEVER)), (2, APART)):
            for sight in sights(hub, view)[::5]:
                self.assertIsNone(self.check(hub, view, sight, 2))

    def test_greatest(self):
        told = set()
        for view in range(4):
            for sight in sights(GREAT, view)[::17] + [(view,) * 4]:
                told.add(self.check(GREAT, view, sight, 2))
        self.assertEqual(told, {None, 1})


class Errors(Asking):
    def test_order(self):
        for function in (may_look_late, late_row):
            for value in BAD_HUBS + odd_values():
                self.refused(InvalidHub, function, value, None, None)
                self.refused(InvalidHub, function, value, 0, (0,))
            for value in [2, -1, True, False, "0", (0,)] + odd_values():
                self.refused(InvalidNumber, function, H, value, None)
                self.refused(InvalidNumber, function, H, value, (0, 0))
            bad = [(0,), (0, 0, 0), (2, 0), (0, -1), (), [0, 0], "00", 0, None] + list(spoiled((0, 1)))
            for value in bad + [value for value in odd_values() if value != (0, 0)]:
                self.refused(InvalidSight, function, H, 0, value)


if __name__ == "__main__":
    unittest.main()
