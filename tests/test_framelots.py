import unittest
from itertools import product

from puttingback.errors import InvalidColumn, InvalidFrame, InvalidLot
from puttingback.framelots import closed_lots, closure_of, is_frame, is_sheet, telling_row, untold_sheet
from tests.asking import Asking
from tests.framesamples import (ALONE, F, H, RING, TOLD_ALONE, WIDE, WORDS, all_sheets, alike, frames, is_plain_sheet, keeps,
                                lots, slow_closure, slow_is_sheet, some_sheets)
from tests.values import disturbed, odd_values, places_of, replaced, spoiled, value_at

BAD_FRAMES = [((), ()), (WORDS + ("y",), ()), (("a", "a"), ()), (("b", "a"), ()), (("a", "B"), ()), (("a", ""), ()),
              (("abcdefghi",), ()), (("a", "b"), ((("a",), "a"),)), (("a", "b"), ((("c",), "a"),)), (("a", "b"), ((("a",), "c"),)),
              (("a", "b"), (((), "a"), ((), "a"))), (("a", "b"), (("a", "b"),)), (("a", "b"), ((("a",), "b", 0),)),
              (("a", "b", "c"), ((("b", "a"), "c"),)), (("a", "b", "c"), ((("a", "a"), "c"),)), (("a",), None), ("a", ()),
              (F[0], F[1], ()), (F[0],), (WORDS, RING[1] + ((("ab", "b"), "x"),)), list(F), (F[0], list(F[1]))]
BAD_LOTS = [("c", "a"), ("a", "a"), ("d",), ("a", "b", "c", "d"), "a", ["a"], (None,), (("a",),), (0,), None]
BAD_COLUMNS = ["d", "", None, 0, True, ("a",), ["a"], (), "ab"]


def is_telling_row(frame, lot, column, row):
    """Return whether something is a telling row, read word by word."""
    if type(row) is not tuple or len(set(row)) != len(row) or not all(0 <= index < len(frame[1]) for index in row):
        return False
    told = set(lot)
    for index in row:
        if not set(frame[1][index][0]) <= told:
            return False
        told.add(frame[1][index][1])
    return column in told


class Examples(Asking):
    def test_as_they_stand(self):
        self.assertEqual([is_frame(F), is_sheet(F, ((1, 1, 5), (1, 2, 6))), closed_lots(F)],
                         [True, False, [(), ("a", "b", "c"), ("a", "c"), ("b", "c"), ("c",)]])
        self.assertEqual([telling_row(F, ("b",), "c"), telling_row(F, ("c",), "a"), untold_sheet(F, ("b",), "c")],
                         [(1,), None, None])


class Frames(Asking):
    def test_limits(self):
        for value in frames(200) + [RING, WIDE, ALONE, TOLD_ALONE, (("abcdefgh",), ())]:
            self.says(True, is_frame(value))
        for value in BAD_FRAMES:
            self.says(False, is_frame(value))

    def test_at_any_values(self):
        for value in odd_values() + list(spoiled(F)) + list(spoiled(WIDE)):
            self.says(False, is_frame(value))
        for value in disturbed(F):
            columns = value[0] if isinstance(value, tuple) and value else None
            # What is changed is a frame only if a column, or all dependencies, became something else that can stand.
            good = value in [F, (F[0], ())] or columns == F[0] and value[1] in [
                ((lot, "c"), F[1][1]) for lot in [(), ("a",)]] + [(F[1][0], (lot, "c")) for lot in [(), ("b",)]] + [
                (F[1][0], (("b",), "a")), ((("a",), "c"), (("b",), "a"))]
            self.says(good, is_frame(value))


class Sheets(Asking):
    def test_limits(self):
        for frame in (F, ALONE, RING, WIDE):
            self.says(True, is_sheet(frame, ()))
        rows = tuple((number,) for number in range(13))
        self.assertEqual([is_sheet(ALONE, rows[:12]), is_sheet(ALONE, rows), is_sheet(TOLD_ALONE, rows[:1]),
                          is_sheet(TOLD_ALONE, rows[:2])], [True, False, True, False])
        for number in (-10 ** 6, 10 ** 6):
            self.says(True, is_sheet(ALONE, ((number,),)))
            self.says(False, is_sheet(ALONE, ((number + (1 if number > 0 else -1),),)))
            self.says(False, is_sheet(ALONE, ((number * 10 ** 100,),)))
        for value in [((1, 1),), ((1, 1, 1, 1),), ((2, 2, 2), (1, 1, 1)), ((1, 1, 1), (1, 1, 1)), ((1, 1, None),), [(1, 1, 1)],
                      ([1, 1, 1],), ((1, 1, True),)]:
            self.says(False, is_sheet(F, value))

    def test_all_of_few_rows(self):
        for frame in frames(25, 3):
            rows = list(product(range(2), repeat=len(frame[0])))
            for value in [(one,) for one in rows] + list(product(rows, repeat=2)) + list(product(rows, repeat=3))[::7]:
                self.says(slow_is_sheet(frame, value), is_sheet(frame, value))

    def test_at_any_values(self):
        for frame in (F, ALONE, TOLD_ALONE):
            for value in odd_values():
                self.says(slow_is_sheet(frame, value), is_sheet(frame, value))
        sheet = ((0, 1, 5), (2, 0, 6))
        for value in spoiled(sheet):
            self.says(False, is_sheet(F, value))
        for value in disturbed(sheet):
            self.says(slow_is_sheet(F, value), is_sheet(F, value))
        for path in places_of(H):
            if isinstance(value_at(H, path), int):
                for number in range(8):
                    value = replaced(H, path, number)
                    self.says(slow_is_sheet(F, value), is_sheet(F, value))


class Closures(Asking):
    def test_against_all_lots(self):
        for frame in frames(120) + [RING, WIDE]:
            closures = {lot: slow_closure(frame, lot) for lot in lots(frame[0])}
            for lot, closure in closures.items():
                self.assertEqual(closure_of(frame, lot), closure)
            self.assertEqual(closed_lots(frame), sorted(set(closures.values())))
            self.assertEqual(closed_lots(frame), sorted(lot for lot in closures if closures[lot] == lot))

    def test_telling_rows_and_untold_sheets(self):
        for frame in frames(120) + [RING, WIDE]:
            for lot in lots(frame[0]):
                for column in frame[0]:
                    told = column in slow_closure(frame, lot)
                    row, sheet = telling_row(frame, lot, column), untold_sheet(frame, lot, column)
                    self.assertIs(row is not None, told)
                    self.assertIs(sheet is None, told)
                    if told:
                        self.assertTrue(is_telling_row(frame, lot, column, row), (frame, lot, column, row))
                    else:
                        self.assertTrue(slow_is_sheet(frame, sheet) and len(sheet) == 2)
                        self.assertTrue(alike(frame, lot, *sheet) and not alike(frame, (column,), *sheet))

    def test_what_lots_tell_in_all_sheets(self):
        for frame in frames(40, 3):
            sheets = [sheet for sheet in all_sheets(frame, 2, 2) if len(sheet) == 2]
            for lot in lots(frame[0]):
                for column in frame[0]:
                    told = all(alike(frame, (column,), *sheet) for sheet in sheets if alike(frame, lot, *sheet))
                    self.assertIs(told, column in closure_of(frame, lot))
            for seed in range(3):
                self.assertTrue(all(is_sheet(frame, sheet) for sheet in some_sheets(frame, seed)))

    def test_no_dependencies(self):
        for columns in (("a",), WORDS):
            self.assertEqual(closed_lots((columns, ())), sorted(lots(columns)))
            self.assertEqual([telling_row((columns, ()), columns, columns[0]), telling_row((columns, ()), (), columns[0])],
                             [(), None])
        self.assertEqual([closed_lots(TOLD_ALONE), telling_row(TOLD_ALONE, (), "a"), untold_sheet(TOLD_ALONE, (), "a")],
                         [[("a",)], (0,), None])
        self.assertEqual(is_plain_sheet(untold_sheet(ALONE, (), "a"), 1) and keeps(ALONE, untold_sheet(ALONE, (), "a")), True)


class Errors(Asking):
    def test_order(self):
        calls = [(is_sheet, 1), (closure_of, 1), (closed_lots, 0), (telling_row, 2), (untold_sheet, 2)]
        for function, more in calls:
            for value in BAD_FRAMES + odd_values():
                self.refused(InvalidFrame, function, value, *[None] * more)
        for function, more in calls[1:2] + calls[3:]:
            for value in BAD_LOTS + [value for value in odd_values() if value not in [(), ("a",)]]:
                self.refused(InvalidLot, function, F, value, *[None] * (more - 1))
        for function, _ in calls[3:]:
            for value in BAD_COLUMNS + [value for value in odd_values() if value != "a"]:
                self.refused(InvalidColumn, function, F, ("a",), value)


if __name__ == "__main__":
    unittest.main()
