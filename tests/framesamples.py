"""Many frames of few columns, and a slow reading of point 28 beside the program."""

from itertools import combinations, product

from tests.chance import Chance

F = (("a", "b", "c"), ((("a",), "c"), (("b",), "c")))
G, H, J = (F[0], F[1][:1]), ((1, 1, 5), (2, 2, 6)), ((1, 1), (1, 2), (2, 2))
WORDS = ("ab", "b", "ba", "c", "cab", "x")

# The greatest frames, and one of a single column.
ALONE = (("a",), ())
TOLD_ALONE = (("a",), (((), "a"),))
RING = (WORDS, tuple(((WORDS[at],), WORDS[(at + 1) % 6]) for at in range(6)) + (((), "x"), (WORDS[:5], "x")))
WIDE = (WORDS, (((), "ab"), (("ab", "b"), "c"), (("b", "c"), "ba"), (("ba",), "cab"), (("ab", "c", "cab"), "x"),
                (("x",), "b"), (("b", "cab"), "c"), (WORDS[:5], "x")))


def lots(columns):
    """Return all lots of columns."""
    return [lot for length in range(len(columns) + 1) for lot in combinations(columns, length)]


def frames(many, most_columns=4, most_dependencies=5):
    """Return many frames."""
    found = [ALONE, TOLD_ALONE, F, G]
    for seed in range(many):
        chance = Chance(seed)
        columns = WORDS[:1 + chance.below(most_columns)]
        dependencies = []
        for _ in range(chance.below(most_dependencies + 1)):
            column = chance.one_of(columns)
            lot = chance.some_of([other for other in columns if other != column], 1 + chance.below(3))
            if (lot, column) not in dependencies:
                dependencies.append((lot, column))
        found.append((columns, tuple(dependencies)))
    return found


def alike(frame, lot, one, other):
    """Return whether two rows are alike in a lot."""
    return all(one[frame[0].index(column)] == other[frame[0].index(column)] for column in lot)


def keeps(frame, rows):
    """Return whether each two of some rows keep all dependencies, read word by word."""
    return all(alike(frame, (column,), one, other) for one, other in combinations(rows, 2)
               for lot, column in frame[1] if alike(frame, lot, one, other))


def is_plain_sheet(value, width, most=12):
    """Return whether any value is an ascending row of rows of integers as in sheets, read word by word."""
    if type(value) is not tuple or len(value) > most or any(type(row) is not tuple or len(row) != width for row in value):
        return False
    if any(type(number) is not int or abs(number) > 10 ** 6 for row in value for number in row):
        return False
    return list(value) == sorted(set(value))


def slow_is_sheet(frame, value, most=12):
    """Return whether any value is a sheet of a frame, read word by word."""
    return is_plain_sheet(value, len(frame[0]), most) and keeps(frame, value)


def slow_closure(frame, lot):
    """Return the least lot that has a lot and, with the lot of a dependency, its column."""
    good = [other for other in lots(frame[0]) if set(lot) <= set(other)
            and all(column in other for ahead, column in frame[1] if set(ahead) <= set(other))]
    [least] = [other for other in good if all(set(other) <= set(more) for more in good)]
    return least


def some_sheets(frame, seed, many=20, numbers=2, most=4):
    """Return some sheets of a frame: () among them, and others of few rows."""
    chance, found = Chance(seed), [()]
    for _ in range(many):
        rows = []
        for _ in range(1 + chance.below(most)):
            row = chance.numbers(len(frame[0]), numbers)
            if row not in rows and keeps(frame, rows + [row]):
                rows.append(row)
        found.append(tuple(sorted(rows)))
    return found


def all_sheets(frame, numbers, most):
    """Return all sheets of a frame of few numbers and rows."""
    rows = sorted(product(range(numbers), repeat=len(frame[0])))
    return [sheet for length in range(most + 1) for sheet in combinations(rows, length) if keeps(frame, sheet)]
