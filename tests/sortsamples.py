"""Many sorts, and a slow reading of points 8 and 9 beside the program."""

from itertools import chain, combinations, product

U, V = ("row", (2, ("one", (("b", ("row", ())), ("a", 3))))), ("set", 3)

# Sorts whose items can be gone through one by one.
SORTS = [0, 1, 2, 3, 12, 30, ("row", ()), ("row", (2,)), ("row", (2, 3)), ("row", (2, 0)), ("row", (0,)), ("row", (12, 2)),
         ("row", (3, 3)), ("row", (("row", (2, 2)), 2)), ("row", (1, 1, 1, 1, 1, 1)), ("one", ()), ("one", (("a", 2),)),
         ("one", (("b", 3), ("a", 0))), ("one", (("b", 2), ("a", 3))), ("one", (("ab", 2), ("a", 12), ("abc", 1), ("b", 0))),
         ("one", (("a", 0), ("b", 0))), ("one", (("a", ("one", (("a", 2), ("c", 11)))), ("b", ("row", ())))),
         ("one", (("a", 12),)), ("one", (("c", V), ("a", ("row", (2, 2))))), ("set", 0), ("set", 1), ("set", 2), V,
         ("set", 5), ("set", ("set", 2)), ("set", ("set", ("set", 0))), ("set", ("row", (2, 3))), ("set", ("row", (2, 0))),
         ("set", ("one", (("b", 2), ("a", 3)))), ("set", ("one", (("ab", 1), ("a", 2), ("b", 0)))), U,
         ("row", (V, 2, ("set", 1))), ("row", (("one", (("x", 2), ("y", 2))), ("one", (("x", 2),)))),
         ("row", (("set", ("row", ())), ("row", (1,)))), ("one", (("a", ("set", 0)), ("b", ("set", 2)))), ("set", 8),
         ("row", (11, ("set", 2))), ("one", (("a", 11), ("b", 3), ("bb", 2)))]

# Sorts with far too many items for that.
GREAT = [("set", 30), ("set", ("row", (8, 8))), ("set", ("set", 6)), ("row", (("set", ("set", 6)),) * 6),
         ("row", (30,) * 6), ("row", (("row", (30,) * 6),) * 5), ("row", (("set", ("row", (4, 4, 4))), 12, ("set", 30))),
         ("one", (("b", ("set", ("set", 5))), ("a", 30), ("ab", ("row", (("set", 12), ("set", 13)))), ("c", 0))),
         ("row", (("one", (("x", ("set", 30)), ("y", ("set", ("one", (("a", 13), ("b", 30))))))),) * 3),
         ("row", (("row", (("set", 30),) * 6), ("row", (("set", 29),) * 6), ("row", (("set", 28),) * 5)))]


def slow_items(sort):
    """Return all items of a sort, sorted by Python."""
    if isinstance(sort, int):
        return list(range(sort))
    if sort[0] == "row":
        return sorted(product(*[slow_items(inner) for inner in sort[1]]))
    if sort[0] == "one":
        return sorted((word, item) for word, inner in sort[1] for item in slow_items(inner))
    inner = slow_items(sort[1])
    lots = chain.from_iterable(combinations(inner, many) for many in range(len(inner) + 1))
    return sorted(("",) + lot for lot in lots)


def slow_text(sort, item):
    """Return the text of an item."""
    if isinstance(sort, int):
        return str(item)
    if sort[0] == "row":
        return "(" + " ".join(slow_text(inner, part) for inner, part in zip(sort[1], item)) + ")"
    if sort[0] == "one":
        return f"{item[0]}:{slow_text(dict(sort[1])[item[0]], item[1])}"
    return "[" + " ".join(slow_text(sort[1], part) for part in item[1:]) + "]"


def spread(count, most=60):
    """Return at most about so many numbers below a count, spread over all of them."""
    step = max(1, count // most)
    numbers = list(range(0, count, step)) + [count - 1, count - 2, count // 3 + 1, count // 7, 1]
    return sorted({number for number in numbers if 0 <= number < count})
