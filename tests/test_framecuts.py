import unittest
from itertools import product

from puttingback.errors import InvalidCut, InvalidFrame, InvalidSheet
from puttingback.framecuts import can_part, joined_parts, parted_sheet, unjoined_sheet
from tests.asking import Asking
from tests.framesamples import (ALONE, F, G, H, RING, WIDE, WORDS, all_sheets, frames, lots, slow_closure, slow_is_sheet,
                                some_sheets)
from tests.test_framelots import BAD_FRAMES
from tests.test_frameways import BAD_SHEETS
from tests.values import odd_values, spoiled

Q = (("a", "b"), ("b", "c"))


def cuts(frame):
    """Return all cuts of a frame."""
    return [(one, other) for one in lots(frame[0]) for other in lots(frame[0])
            if one and other and set(one) | set(other) == set(frame[0])]


def slow_part(frame, lot, rows):
    """Return the part of some rows in the columns of a lot."""
    return tuple(sorted({tuple(row[frame[0].index(column)] for column in lot) for row in rows}))


def slow_joined(frame, cut, one, other):
    """Return all rows whose parts are in two sheets."""
    numbers = sorted({number for row in one + other for number in row})
    rows = product(numbers, repeat=len(frame[0]))
    return tuple(row for row in rows if slow_part(frame, cut[0], [row])[0] in one and slow_part(frame, cut[1], [row])[0] in other)


class Examples(Asking):
    def test_as_they_stand(self):
        self.assertEqual([parted_sheet(F, Q, H), can_part(F, Q), can_part(G, Q), joined_parts(G, Q, ((1, 1), (2, 1)), ((1, 5),))],
                         [(((1, 1), (2, 2)), ((1, 5), (2, 6))), True, False, ((1, 1, 5), (2, 1, 5))])


class Cuts(Asking):
    def test_parts_and_what_is_joined(self):
        for frame in frames(30, 3):
            for cut in cuts(frame):
                for sheet in some_sheets(frame, len(cut[0]), 5, 3):
                    parts = (slow_part(frame, cut[0], sheet), slow_part(frame, cut[1], sheet))
                    self.assertEqual(parted_sheet(frame, cut, sheet), parts)
                    self.assertEqual(joined_parts(frame, cut, *parts), slow_joined(frame, cut, *parts))
                    other = parts[1][::2] + ((7,) * len(cut[1]),)
                    self.assertEqual(joined_parts(frame, cut, parts[0], other), slow_joined(frame, cut, parts[0], other))

    def test_what_can_be_parted(self):
        told = {True: 0, False: 0}
        for frame in frames(60) + [RING, WIDE]:
            for cut in cuts(frame)[::1 if len(frame[0]) < 4 else 7]:
                common = tuple(column for column in cut[0] if column in cut[1])
                closure = set(slow_closure(frame, common))
                # All sheets are joined of their parts just if the common columns tell all columns of one part.
                expected = set(cut[0]) <= closure or set(cut[1]) <= closure
                self.says(expected, can_part(frame, cut))
                told[expected] += 1
                sheet = unjoined_sheet(frame, cut)
                self.assertIs(sheet is None, expected)
                if sheet is not None:
                    self.assertTrue(len(sheet) == 2 and slow_is_sheet(frame, sheet))
                    self.assertNotEqual(slow_joined(frame, cut, *[slow_part(frame, lot, sheet) for lot in cut]), sheet)
        self.assertGreater(min(told.values()), 100)

    def test_against_all_sheets(self):
        for frame in frames(25, 3):
            sheets = all_sheets(frame, 2, 3)
            for cut in cuts(frame):
                joined = all(slow_joined(frame, cut, *[slow_part(frame, lot, sheet) for lot in cut]) == sheet for sheet in sheets)
                self.says(joined, can_part(frame, cut))

    def test_lots_that_overlap_or_are_the_same(self):
        whole = (F[0], F[0])
        self.assertEqual([parted_sheet(F, whole, H), can_part((F[0], ()), whole), unjoined_sheet((F[0], ()), whole),
                          joined_parts(F, whole, H, H[:1])], [(H, H), True, None, H[:1]])
        self.assertEqual([can_part(ALONE, (("a",), ("a",))), joined_parts(ALONE, (("a",), ("a",)), ((1,), (2,)), ((2,), (3,)))],
                         [True, ((2,),)])
        apart = (("a",), ("b", "c"))
        self.assertEqual([can_part(F, apart), joined_parts(F, apart, ((1,), (2,)), ((5, 6), (7, 8)))],
                         [False, ((1, 5, 6), (1, 7, 8), (2, 5, 6), (2, 7, 8))])
        self.assertEqual([joined_parts(F, apart, (), ((5, 6),)), parted_sheet(F, apart, ())], [(), ((), ())])

    def test_sheets_that_are_joined_need_keep_nothing(self):
        self.assertEqual(joined_parts(F, Q, ((1, 1),), ((1, 5), (1, 6))), ((1, 1, 5), (1, 1, 6)))

    def test_greatest(self):
        cut = (WORDS[:4], WORDS[2:])
        one = tuple((number, -number, 0, 10 ** 6) for number in range(12))
        other = tuple((0, 10 ** 6, number, 3) for number in range(12))
        rows = joined_parts(RING, cut, one, other)
        self.assertEqual([len(rows), rows[0], rows[-1]], [144, (0, 0, 0, 10 ** 6, 0, 3), (11, -11, 0, 10 ** 6, 11, 3)])
        self.assertEqual(list(rows), sorted(set(rows)))
        sheet = tuple((number,) * 5 + (0,) for number in range(12))
        self.assertEqual(parted_sheet((WORDS, RING[1][:4] + RING[1][6:7]), cut, sheet), (tuple((number,) * 4 for number in range(12)),
                                                          tuple((number,) * 3 + (0,) for number in range(12))))


class Errors(Asking):
    def test_order(self):
        calls = [(parted_sheet, 1), (joined_parts, 2), (can_part, 0), (unjoined_sheet, 0)]
        bad = [(("a", "b"), ("b",)), (("a", "b", "c"), ()), ((), ("a", "b", "c")), (("b", "a"), ("b", "c")), (("a", "a"), ("b", "c")),
               (("a", "b"), ("c", "d")), (("a", "b"), "c"), (("a", "b", "c"),), (("a",), ("b",), ("c",)), Q + (("c",),), Q[:1], "abc", None]
        for function, more in calls:
            for value in BAD_FRAMES:
                self.refused(InvalidFrame, function, value, *[None] * (more + 1))
            for value in bad + odd_values() + list(spoiled(Q)):
                self.refused(InvalidCut, function, F, value, *[None] * more)
        for value in BAD_SHEETS:
            self.refused(InvalidSheet, parted_sheet, F, Q, value)
        many = tuple((number, number) for number in range(13))
        for value in [H, ((2, 2), (1, 1)), ((1, 1), (1, 1)), [(1, 1)], ([1, 1],), ((1, True),), ((1, 10 ** 6 + 1),), many, None]:
            self.refused(InvalidSheet, joined_parts, F, Q, value, None)
            self.refused(InvalidSheet, joined_parts, F, Q, value, ((1, 1),))
            self.refused(InvalidSheet, joined_parts, F, Q, ((1, 1),), value)
        self.assertEqual(joined_parts(F, Q, many[:12], many[1:]), tuple((number,) * 3 for number in range(1, 12)))


if __name__ == "__main__":
    unittest.main()
