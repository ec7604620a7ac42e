import unittest
from itertools import product

from puttingback.errors import InvalidFrame, InvalidSheet, InvalidShown, InvalidTest
from puttingback.frametests import can_take, clashing_rows, columns_asked, rows_back, taken_rows
from tests.asking import Asking
from tests.chance import Chance
from tests.framesamples import F, G, H, RING, WIDE, WORDS, frames, keeps, slow_is_sheet, some_sheets
from tests.test_framelots import BAD_FRAMES
from tests.test_frameways import BAD_SHEETS
from tests.values import disturbed, nested, odd_values, spoiled

P = ("is", "b", (2,))
# Tests of 12 parts and 6 deep, and such of one part more, and one deeper.
DEEPEST = nested(5, lambda part: ("not", part) if part else ("not", P))
WIDEST = ("and", ("or", ("and", P, P), ("or", P, P)), ("and", P, ("not", P)))
TOO_DEEP = ("not", DEEPEST)
TOO_WIDE = ("and", ("or", ("and", P, P), ("or", P, P)), ("and", ("not", P), ("not", P)))


def tests_of(frame, many, numbers=3):
    """Return many tests of the columns of a frame."""
    found = [("is", column, told) for column in frame[0][:2] for told in [(), (0,), (0, 1, 2), (1, 5, 7, 9)]]
    chance = Chance(many)
    for _ in range(many):
        word = chance.one_of(("is", "and", "or", "and", "or", "not"))
        if word == "is":
            found.append(("is", chance.one_of(frame[0]), chance.some_of(range(numbers))))
        else:
            found.append((word,) + tuple(chance.one_of(found) for _ in range(1 if word == "not" else 2)))
    return [test for test in found if size(test) <= 12 and depth(test) <= 6]


def size(test):
    """Return of how many tests one consists."""
    return 1 + sum(size(part) for part in test[1:] if test[0] != "is")


def depth(test):
    """Return how deep a test is."""
    return 1 + max([depth(part) for part in test[1:] if test[0] != "is"], default=0)


def slow_takes(columns, test, row):
    """Return whether a test takes a row, read word by word."""
    if test[0] == "is":
        return dict(zip(columns, row))[test[1]] in test[2]
    parts = [slow_takes(columns, part, row) for part in test[1:]]
    return not parts[0] if test[0] == "not" else all(parts) if test[0] == "and" else any(parts)


def slow_is_test(columns, value):
    """Return whether any value of few parts is a test, read word by word."""
    if type(value) is not tuple or len(value) not in (2, 3):
        return False
    if value[0] == "is" and len(value) == 3:
        if value[1] not in columns or type(value[2]) is not tuple or len(value[2]) > 4:
            return False
        plain = all(type(number) is int and abs(number) <= 10 ** 6 for number in value[2])
        return plain and list(value[2]) == sorted(set(value[2]))
    return value[0] in ("not", "and", "or") and len(value) == (2 if value[0] == "not" else 3) and \
        all(slow_is_test(columns, part) for part in value[1:])


def told_numbers(test, column):
    """Return the numbers for which a test asks in a column."""
    if test[0] == "is":
        return set(test[2]) if test[1] == column else set()
    return set().union(*[told_numbers(part, column) for part in test[1:]])


def all_rows(columns, test):
    """Return all rows of the numbers for which a test asks, and of two others."""
    return list(product(*[sorted(told_numbers(test, column) | {-1, -2}) for column in columns]))


def slow_asked(columns, test):
    """Return the columns that a test asks, read word by word."""
    taken = {row: slow_takes(columns, test, row) for row in all_rows(columns, test)}
    asked = []
    for at, column in enumerate(columns):
        lots = {}
        for row, told in taken.items():
            lots.setdefault(row[:at] + row[at + 1:], set()).add(told)
        if any(len(lot) == 2 for lot in lots.values()):
            asked.append(column)
    return asked


class Examples(Asking):
    def test_as_they_stand(self):
        self.assertEqual([taken_rows(G, P, H), rows_back(G, P, H, ((1, 2, 5),)), rows_back(G, P, H, ((1, 2, 7),)),
                          columns_asked(G, ("or", P, ("not", P)))],
                         [((2, 2, 6),), ((1, 1, 5), (1, 2, 5)), None, []])
        self.assertEqual([can_take(G, P), can_take(G, ("is", "a", (1, 4))), clashing_rows(G, ("is", "b", ()))],
                         [False, True, None])


class Rows(Asking):
    def test_rows_taken_and_put_back(self):
        none = 0
        for frame in frames(25, 3):
            sheets = some_sheets(frame, 1, 10, 3)
            for test in tests_of(frame, 20):
                for sheet in sheets:
                    taken = tuple(row for row in sheet if slow_takes(frame[0], test, row))
                    self.assertEqual(taken_rows(frame, test, sheet), taken)
                    hidden = set(sheet) - set(taken)
                    for other in sheets:
                        shown = tuple(row for row in other if slow_takes(frame[0], test, row))
                        rows = tuple(sorted(hidden | set(shown)))
                        expected = rows if keeps(frame, rows) else None
                        self.assertEqual(rows_back(frame, test, sheet, shown), expected)
                        none += expected is None
        self.assertGreater(none, 100)

    def test_up_to_24_rows(self):
        frame, test = (("a", "b"), ()), ("is", "b", (0,))
        sheet, shown = tuple((number, 1) for number in range(12)), tuple((number, 0) for number in range(12))
        self.assertEqual(rows_back(frame, test, sheet, shown), tuple(sorted(sheet + shown)))
        self.assertEqual(rows_back(frame, test, (), ()), ())

    def test_columns_asked(self):
        seen = set()
        for frame in frames(12, 3):
            for test in tests_of(frame, 60):
                asked = slow_asked(frame[0], test)
                self.assertEqual(columns_asked(frame, test), asked)
                seen.add(len(asked))
        self.assertEqual(seen, {0, 1, 2, 3})

    def test_what_can_be_taken(self):
        told = {True: 0, False: 0}
        for frame in frames(60, 3):
            for test in tests_of(frame, 15):
                asked = slow_asked(frame[0], test)
                # Each lot ahead of a dependency must have all columns that the test asks.
                expected = all(set(asked) <= set(lot) for lot, _ in frame[1])
                self.says(expected, can_take(frame, test))
                told[expected] += 1
                rows = clashing_rows(frame, test)
                self.assertIs(rows is None, expected)
                if rows is not None:
                    self.assertTrue(slow_is_sheet(frame, rows[:1]) and slow_is_sheet(frame, rows[1:]))
                    self.assertEqual([slow_takes(frame[0], test, row) for row in rows], [False, True])
                    self.assertFalse(keeps(frame, rows))
                    self.assertIsNone(rows_back(frame, test, rows[:1], rows[1:]))
        self.assertGreater(min(told.values()), 100)

    def test_against_all_rows(self):
        for frame in frames(30, 3):
            for test in tests_of(frame, 8, 2)[4:]:
                rows = all_rows(frame[0], test)
                hidden = [row for row in rows if not slow_takes(frame[0], test, row)]
                clash = any(not keeps(frame, (one, other)) for one in hidden for other in rows
                            if slow_takes(frame[0], test, other))
                self.says(not clash, can_take(frame, test))


class Edges(Asking):
    def test_sizes(self):
        self.assertEqual([size(WIDEST), depth(DEEPEST), size(TOO_WIDE), depth(TOO_DEEP)], [12, 6, 13, 7])
        self.assertEqual([columns_asked(G, DEEPEST), columns_asked(G, WIDEST), taken_rows(G, DEEPEST, H)],
                         [["b"], [], ((1, 1, 5),)])

    def test_numbers(self):
        self.assertEqual([taken_rows(G, ("is", "c", ()), H), taken_rows(G, ("is", "c", (-10 ** 6, 5, 6, 10 ** 6)), H),
                          columns_asked(G, ("is", "c", (-10 ** 6, 0, 1, 10 ** 6))), clashing_rows(G, ("not", ("is", "c", ())))],
                         [(), H, ["c"], None])

    def test_no_dependencies(self):
        self.assertEqual([can_take((F[0], ()), P), clashing_rows((F[0], ()), P)], [True, None])

    def test_greatest(self):
        one = ("and", ("or", ("is", "ab", (0, 1, 2, 3)), ("is", "b", (4, 5, 6, 7))), ("is", "ba", (8, 9, 10, 11)))
        other = ("or", ("and", ("is", "c", (0, 1, 2, 3)), ("is", "cab", (-4, -3, -2, -1))), ("is", "x", (7, 8, 9, 10)))
        test = ("and", one, other)
        self.assertEqual(size(test), 11)
        self.assertEqual(columns_asked(WIDE, test), list(WORDS))
        self.assertEqual(columns_asked(RING, ("not", test)), list(WORDS))
        hidden, taken = clashing_rows(WIDE, test)
        self.assertEqual([slow_takes(WORDS, test, hidden), slow_takes(WORDS, test, taken), keeps(WIDE, (hidden, taken))],
                         [False, True, False])
        # Many numbers in one column, of which each way of being told is there.
        test = ("is", "ab", (0, 1, 2, 3))
        for step in range(1, 6):
            test = ("or", test, ("is", "ab", tuple(4 * step + at for at in range(4))))
        self.assertEqual([size(test), columns_asked(WIDE, test)], [11, ["ab"]])
        self.assertEqual(columns_asked(WIDE, ("and", ("is", "b", (5,)), ("is", "b", (6,)))), [])


class Errors(Asking):
    def test_tests(self):
        bad = [("is", "d", (2,)), ("is", "b", (2, 1)), ("is", "b", (1, 1)), ("is", "b", (0, 1, 2, 3, 4)), ("is", "b", [2]),
               ("is", "b", 2), ("is", "b", (True,)), ("is", "b", (10 ** 6 + 1,)), ("is", "b", (-10 ** 6 - 1,)), ("is", "b"),
               ("is", "b", (2,), 0), ("not", P, P), ("not",), ("and", P), ("or", P), ("and", P, P, P), ("or", P, None), P[0],
               ("xor", P, P), ("And", P, P), list(P), ("not", list(P)), ((), P), (None, P, P), TOO_DEEP, TOO_WIDE]
        for value in bad + odd_values() + list(spoiled(("or", P, ("not", ("is", "a", (0, 1)))))):
            self.refused(InvalidTest, taken_rows, G, value, None)
            self.refused(InvalidTest, rows_back, G, value, None, None)
            self.refused(InvalidTest, columns_asked, G, value)
            self.refused(InvalidTest, can_take, G, value)
            self.refused(InvalidTest, clashing_rows, G, value)
        for value in disturbed(("or", P, ("not", P))):
            if not slow_is_test(G[0], value):
                self.refused(InvalidTest, columns_asked, G, value)
            else:
                self.assertEqual(columns_asked(G, value), slow_asked(G[0], value))

    def test_order(self):
        for function, more in [(taken_rows, 2), (rows_back, 3), (columns_asked, 1), (can_take, 1), (clashing_rows, 1)]:
            for value in BAD_FRAMES:
                self.refused(InvalidFrame, function, value, *[None] * more)
        for value in BAD_SHEETS:
            sheet = F if value is None else value
            self.refused(InvalidSheet, taken_rows, F, P, sheet)
            self.refused(InvalidSheet, rows_back, F, P, sheet, None)
        for value in BAD_SHEETS + [H, ((1, 1, 5),), ((1, 2, 5), (1, 2, 6)), tuple((at, 2, 0) for at in range(13))]:
            self.refused(InvalidShown, rows_back, F, P, H, value)


if __name__ == "__main__":
    unittest.main()
