"""Values of every sort that the document calls any value, and changes of one place in a value."""

from puttingback import errors
from puttingback.keepers import Keeper


def nested(depth, make):
    """Return a value nested so deep."""
    value = 0
    for _ in range(depth):
        value = make(value)
    return value


def odd_values():
    """Return a list of values that are hardly ever what is asked for, of every sort."""
    plain = [True, False, None, -1, 31, 41, 513, 10 ** 119, -10 ** 119, "", " ", "a", "A", "abcdefgh", "abcdefghi",
             "whole", "row", "a" * 4000, "\n", "1", (), [], ((),), [[]], ("",), (None,), (True,), (0,), [0], (0, 0),
             ("a", 2), [("a", 2)], (("a", 2),), (["a", 2],), (("a", True),), (("a", 2), ("a", 2)), ("whole",),
             ["whole"], ("whole", 0), ("part",), ("row", [2]), ["row", (2,)], ("one", (("a",),)), ("set",),
             ("set", True), (2, (True,)), (2, [0]), (0, ()), (True, ()), ("show", 0), ("ask", (), ())]
    wide = [(0,) * 1000, [0] * 1000, (("a", 0),) * 1000, ("",) * 1000, tuple(range(1000)), ("parts", (("a", 1),) * 1000)]
    deep = [nested(99, lambda value: (value,)), nested(99, lambda value: [value]),
            nested(49, lambda value: ("set", (value,))), nested(99, lambda value: ("set", value)),
            nested(49, lambda value: (("a", value),))]
    # Values that share what they consist of: unfolded they have more parts than can be gone through.
    shared = [nested(49, lambda value: ("row", (value,) * 6)), nested(99, lambda value: ("sum", value, value)),
              nested(33, lambda value: ("parts", (("a", value), ("b", value)))),
              nested(33, lambda value: (("a", value), ("b", value))),
              nested(33, lambda value: ("one", (("a", value), ("b", value)))),
              nested(99, lambda value: ("test", value, (0,), value, value)),
              nested(99, lambda value: ("then", value, value))]
    held = []
    made = [errors.PutError("a"), errors.InvalidKind("a"), errors.TooMany(4), errors.InvalidItemText(0), keeper(0), keeper(1)]
    for one in made:
        held += [("whole", one), (one,), [one], ("row", (one,)), (("a", one),), (one, one), (1, (one,)), ("set", one), (one, 0, 0)]
    return plain + wide + deep + shared + made + held


def keeper(deeds):
    """Return a keeper with so many deeds."""
    made = Keeper((("a", 2),), (("whole",), ("part", "a")), (0,))
    for _ in range(deeds):
        made.put(1, 1)
    return made


def places_of(value):
    """Yield the paths to all values that stand in a nested row, and to itself."""
    yield ()
    if isinstance(value, tuple):
        for index, part in enumerate(value):
            for path in places_of(part):
                yield (index,) + path


def value_at(value, path):
    """Return what stands in a nested row at a path."""
    for index in path:
        value = value[index]
    return value


def replaced(value, path, part):
    """Return a nested row with something else at a path."""
    if not path:
        return part
    inner = replaced(value[path[0]], path[1:], part)
    return value[:path[0]] + (inner,) + value[path[0] + 1:]


def spoiled(value):
    """Yield the value with one row in it made a list, or one 0 or 1 made False or True: never what it was."""
    for path in places_of(value):
        part = value_at(value, path)
        if isinstance(part, tuple):
            yield replaced(value, path, list(part))
        elif isinstance(part, int) and part in (0, 1):
            yield replaced(value, path, bool(part))


def disturbed(value):
    """Yield the value with something odd at one of its places: mostly not what it was, but of any form."""
    for path in places_of(value):
        for part in (True, None, -1, 0, 1, 13, 10 ** 119, "", "a", "zz", (), (0,), [], ("a", 1), errors.PutError("a"), keeper(1)):
            yield replaced(value, path, part)
