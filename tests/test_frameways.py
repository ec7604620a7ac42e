import unittest
from itertools import chain, combinations, product

from puttingback.errors import InvalidColumn, InvalidFrame, InvalidSheet, InvalidShown
from puttingback.frameways import (can_leave_out, forcing_lots, is_way_back, may_be_shown, unserved_change, way_back,
                                   without_column)
from tests.asking import Asking
from tests.framesamples import (ALONE, F, G, H, J, RING, TOLD_ALONE, WORDS, all_sheets, frames, lots, slow_closure,
                                slow_is_sheet, some_sheets)
from tests.samples import every
from tests.test_framelots import BAD_COLUMNS, BAD_FRAMES
from tests.values import disturbed, odd_values, spoiled

# A frame with the most columns and dependencies, whose last column is loose.
LOOSE = (WORDS, (((), "ab"), (("ab", "b"), "c"), (("b", "c"), "ba"), (("ba",), "cab"), (("ab", "c", "cab"), "x"), (("b",), "x"),
                 (("b", "cab"), "c"), (WORDS[:5], "x")))
BAD_SHEETS = [((1, 1, 5), (1, 2, 6)), ((2, 2, 6), (1, 1, 5)), [(1, 1, 5)], ((1, 1),), ((1, 1, 10 ** 6 + 1),),
              tuple((number, number, 0) for number in range(13)), None]


def loose_columns(frame):
    """Return the columns that are ahead of none."""
    return [column for column in frame[0] if not any(column in lot for lot, _ in frame[1])]


LEFT_OUT = [(frame, column) for frame in frames(60, 3) for column in loose_columns(frame)]


def shown_of(frame, column, rows):
    """Return what is shown of some rows without a column, in order."""
    at = frame[0].index(column)
    return tuple(sorted({row[:at] + row[at + 1:] for row in rows}))


def other_frame(frame, column):
    """Return the other columns, and the dependencies but those of the column."""
    return (tuple(other for other in frame[0] if other != column), tuple(one for one in frame[1] if one[1] != column))


def slow_is_way_back(frame, column, sheet, shown, value):
    """Return whether any value is a way back, read word by word."""
    if not slow_is_sheet(frame, value, 24) or shown_of(frame, column, value) != shown:
        return False
    return all(row in value for row in sheet if shown_of(frame, column, (row,))[0] in shown)


def rows_of(frame, column, shown, numbers):
    """Return all rows of which one of those that are shown is shown, with some numbers in the column."""
    at = frame[0].index(column)
    return sorted(row[:at] + (number,) + row[at:] for row in shown for number in numbers)


def ways_back(frame, column, sheet, shown):
    """Return all ways back with the numbers of the sheet in the column, and one more."""
    at = frame[0].index(column)
    numbers = sorted({row[at] for row in sheet} | {7})
    rows = rows_of(frame, column, shown, numbers)
    values = chain.from_iterable(combinations(rows, length) for length in range(len(rows) + 1))
    return [value for value in values if slow_is_way_back(frame, column, sheet, shown, value)]


def slow_has_way_back(frame, column, sheet, shown):
    """Return whether there is a way back: one number more for what no row of the sheet shows is enough."""
    at = frame[0].index(column)
    kept = [row for row in sheet if shown_of(frame, column, (row,))[0] in shown]
    added = [row for row in shown if row not in shown_of(frame, column, kept)]
    numbers = sorted({row[at] for row in sheet} | {7})
    return any(slow_is_sheet(frame, tuple(sorted(kept + [row[:at] + (number,) + row[at:] for row, number in zip(added, chosen)])), 24)
               for chosen in product(numbers, repeat=len(added)))


class Examples(Asking):
    def test_as_they_stand(self):
        self.assertEqual([without_column(F, "c", H), way_back(F, "c", H, J), way_back(G, "c", H, J)],
                         [((1, 1), (2, 2)), None, ((1, 1, 5), (1, 2, 5), (2, 2, 6))])
        self.assertEqual([forcing_lots(F, "c"), can_leave_out(F, "c"), can_leave_out(G, "c"), may_be_shown(F, "c", J)],
                         [[("a",), ("b",)], False, True, True])


class Shown(Asking):
    def test_what_is_shown(self):
        for frame, column in LEFT_OUT:
            for sheet in some_sheets(frame, len(frame[1])):
                shown = without_column(frame, column, sheet)
                self.assertEqual(shown, shown_of(frame, column, sheet))
                self.says(True, may_be_shown(frame, column, shown))

    def test_what_may_be_shown(self):
        for frame, column in LEFT_OUT:
            others = other_frame(frame, column)
            rows = list(product(range(2), repeat=len(others[0])))
            for value in [()] + [(row,) for row in rows] + list(product(rows, repeat=2)) + list(product(rows, repeat=3))[::5]:
                self.says(slow_is_sheet(others, value), may_be_shown(frame, column, value))
        for value in list(disturbed(J)) + list(spoiled(J)) + odd_values():
            self.says(slow_is_sheet(other_frame(F, "c"), value), may_be_shown(F, "c", value))
        more = tuple((number, number) for number in range(13))
        self.assertEqual([may_be_shown(F, "c", more[:12]), may_be_shown(F, "c", more)], [True, False])

    def test_no_other_columns(self):
        for frame in (ALONE, TOLD_ALONE):
            for value in [(), ((),)]:
                self.says(True, may_be_shown(frame, "a", value))
            for value in [((), ()), [()], ([],), ((0,),), (0,), None]:
                self.says(False, may_be_shown(frame, "a", value))
            self.assertEqual([without_column(frame, "a", ()), without_column(frame, "a", ((4,),)), way_back(frame, "a", ((4,),), ()),
                              way_back(frame, "a", ((4,),), ((),)), forcing_lots(frame, "a"), can_leave_out(frame, "a"),
                              unserved_change(frame, "a")], [(), ((),), (), ((4,),), [], True, None])
            self.assertEqual(len(way_back(frame, "a", (), ((),))), 1)
        self.assertEqual(way_back(ALONE, "a", ((4,), (5,)), ((),)), ((4,), (5,)))
        self.says(True, is_way_back(ALONE, "a", ((4,), (5,)), ((),), ((4,), (5,), (6,))))
        self.says(False, is_way_back(TOLD_ALONE, "a", ((4,),), ((),), ((4,), (6,))))
        self.says(False, is_way_back(ALONE, "a", ((4,),), ((),), ((6,),)))


class WaysBack(Asking):
    def test_against_all(self):
        for frame, column in [(F, "c"), (G, "c")] + LEFT_OUT[::4]:
            shows = all_sheets(other_frame(frame, column), 2, 3)
            for at, sheet in enumerate(every(all_sheets(frame, 2, 2), 25)):
                for shown in shows[at % 5::5]:
                    ways = ways_back(frame, column, sheet, shown)
                    way = way_back(frame, column, sheet, shown)
                    self.assertIs(way is None, not ways)
                    self.assertIs(bool(ways), slow_has_way_back(frame, column, sheet, shown))
                    if way is not None:
                        self.assertTrue(slow_is_way_back(frame, column, sheet, shown, way))
                    for value in ways[:20]:
                        self.says(True, is_way_back(frame, column, sheet, shown, value))

    def test_where_there_is_none(self):
        told = {True: 0, False: 0}
        for frame in (F, G, (F[0], F[1][:1] + (((), "b"),)), (F[0], F[1] + ((("a",), "b"),)), (F[0], F[1] + (((), "c"),))):
            for sheet in all_sheets(frame, 2, 2):
                for shown in all_sheets(other_frame(frame, "c"), 3, 3):
                    served = slow_has_way_back(frame, "c", sheet, shown)
                    self.assertIs(way_back(frame, "c", sheet, shown) is not None, served)
                    told[served] += 1
        self.assertGreater(min(told.values()), 5)

    def test_is_way_back(self):
        for frame in (F, G):
            sheet, shown = ((1, 1, 5), (2, 2, 5), (3, 3, 6)), ((1, 1), (1, 2), (4, 4))
            rows = rows_of(frame, "c", shown, (5, 6))
            values = chain.from_iterable(combinations(rows, length) for length in range(6))
            for value in list(values) + [tuple(rows[::-1]), ((1, 1, 5), (1, 2, 5), (4, 4, 10 ** 6)), ((1, 1, 5), (1, 2, 5), (4, 5, 0))]:
                self.says(slow_is_way_back(frame, "c", sheet, shown, value), is_way_back(frame, "c", sheet, shown, value))
            way = way_back(frame, "c", sheet, shown)
            for value in list(spoiled(way)) + list(disturbed(way)) + odd_values():
                self.says(slow_is_way_back(frame, "c", sheet, shown, value), is_way_back(frame, "c", sheet, shown, value))

    def test_up_to_24_rows(self):
        frame = (("a", "b"), ())
        sheet, shown = tuple((0, number) for number in range(12)), tuple((number,) for number in range(12))
        way = way_back(frame, "b", sheet, shown)
        self.assertTrue(slow_is_way_back(frame, "b", sheet, shown, way))
        self.assertEqual(len(way), 23)
        more = tuple(sorted(sheet + tuple((number, 5) for number in range(1, 12)) + ((3, 6),)))
        self.says(True, is_way_back(frame, "b", sheet, shown, more))
        self.says(False, is_way_back(frame, "b", sheet, shown, tuple(sorted(more + ((4, 6),)))))

    def test_rows_that_tell_one_by_another(self):
        # Each row is told by the one ahead of it, in a or in b by turns; the last one comes first in order.
        shown = tuple(sorted((-(at // 2), -((at + 1) // 2)) for at in range(12)))
        sheet = ((0, 0, 9),)
        way = way_back(F, "c", sheet, shown)
        self.assertEqual(way, tuple(row + (9,) for row in shown))
        self.assertIsNone(way_back(F, "c", ((-5, -6, 3), (0, 0, 9)), shown))
        self.assertEqual(way_back(F, "c", ((-5, -6, 9), (0, 0, 9), (1, 1, 4)), shown), way)
        self.assertEqual({row[2] for row in way_back(F, "c", (), shown)}, {way_back(F, "c", (), shown)[0][2]})

    def test_greatest(self):
        sheet = tuple((1, number, number, number, number, 10 ** 6 - number) for number in range(12))
        shown = tuple((1, number, number, number, number) for number in range(4, 16))
        self.assertTrue(slow_is_sheet(LOOSE, sheet) and slow_is_sheet(other_frame(LOOSE, "x"), shown))
        way = way_back(LOOSE, "x", sheet, shown)
        self.assertTrue(slow_is_way_back(LOOSE, "x", sheet, shown, way))
        self.says(True, is_way_back(LOOSE, "x", sheet, shown, way))


class LeavingOut(Asking):
    def test_forcing_lots(self):
        for frame in frames(150) + [LOOSE, TOLD_ALONE]:
            for column in loose_columns(frame):
                others = other_frame(frame, column)[0]
                forcing = [lot for lot in lots(others) if set(lot) < set(others)
                           and set(slow_closure(frame, lot)) - {column} == set(lot)
                           and any(set(ahead) <= set(lot) for ahead, told in frame[1] if told == column)]
                self.assertEqual(forcing_lots(frame, column), sorted(forcing))
                # A column can be left out just if no lot forces it, or one that lies in all that do.
                least = not forcing or any(all(set(one) <= set(other) for other in forcing) for one in forcing)
                self.says(least, can_leave_out(frame, column))
                change = unserved_change(frame, column)
                self.assertIs(change is None, least)
                if change is not None:
                    sheet, shown = change
                    self.assertTrue(slow_is_sheet(frame, sheet) and slow_is_sheet(other_frame(frame, column), shown))
                    self.assertTrue(len(sheet) <= 3 and len(shown) <= 3)
                    self.assertFalse(slow_has_way_back(frame, column, sheet, shown))
                    self.assertIsNone(way_back(frame, column, sheet, shown))

    def test_against_all_changes(self):
        told = {True: 0, False: 0}
        for frame, column in [(F, "c"), (G, "c")] + LEFT_OUT[::3]:
            sheets, shows = all_sheets(frame, 2, 2), all_sheets(other_frame(frame, column), 3, 3)
            served = all(slow_has_way_back(frame, column, sheet, shown) for sheet in sheets for shown in shows)
            self.says(served, can_leave_out(frame, column))
            told[served] += 1
        self.assertGreater(min(told.values()), 0)


class Errors(Asking):
    def test_order(self):
        calls = [(without_column, 1), (may_be_shown, 1), (way_back, 2), (is_way_back, 3), (forcing_lots, 0), (can_leave_out, 0),
                 (unserved_change, 0)]
        for function, more in calls:
            for value in BAD_FRAMES:
                self.refused(InvalidFrame, function, value, *[None] * (more + 1))
            for value in BAD_COLUMNS + ["a", "b"] + odd_values():
                self.refused(InvalidColumn, function, F, value, *[None] * more)
            self.refused(InvalidColumn, function, RING, "ab", *[None] * more)
        for function, more in [(without_column, 0), (way_back, 1), (is_way_back, 2)]:
            for value in BAD_SHEETS + [value for value in odd_values() if value != ()] + list(spoiled(H)):
                self.refused(InvalidSheet, function, F, "c", value, *[None] * more)
        frame = (("a", "b", "c"), ((("a",), "b"), (("b",), "c")))
        for function, more in [(way_back, 0), (is_way_back, 1)]:
            for value in [((1, 1), (1, 2)), ((2, 2), (1, 1)), H, None] + odd_values():
                if value != ():
                    self.refused(InvalidShown, function, frame, "c", H, value, *[None] * more)
            self.refused(InvalidShown, function, F, "c", H, tuple((number, number) for number in range(13)), *[None] * more)


if __name__ == "__main__":
    unittest.main()
