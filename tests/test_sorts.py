import unittest

from puttingback.errors import InvalidItem, InvalidKind, InvalidNumber, InvalidSort
from puttingback.kinds import number_of, things_of
from puttingback.sorts import count_items, is_item, is_sort, item_at, item_number, kind_sort
from tests.asking import Asking
from tests.samples import KINDS, every
from tests.sortsamples import GREAT, SORTS, U, V, slow_items, spread
from tests.values import disturbed, odd_values, spoiled


def is_plainly(value, items):
    """Return whether a value is among items, and has no True or False or the like in it."""
    return value in items and repr(value) in [repr(item) for item in items]


class Examples(Asking):
    def test_as_they_stand(self):
        self.assertEqual([is_sort(U), is_sort(("set", ("set", ("set", 3)))), is_item(U, (1, ("b", ()))),
                          is_item(V, ("", 2, 0)), count_items(U), count_items(("set", V))],
                         [True, False, True, False, 8, 256])
        self.assertEqual([item_number(U, (1, ("b", ()))), item_number(V, ("", 1, 2)), item_at(U, 4), item_at(V, 4),
                          kind_sort((("a", 2), ("b", 3)))],
                         [7, 6, (1, ("a", 0)), ("", 0, 2), ("row", (2, 3))])


class Sorts(Asking):
    def test_integers(self):
        for value in range(-2, 40):
            self.says(0 <= value <= 30, is_sort(value))

    def test_rows(self):
        for many in range(9):
            self.says(many <= 6, is_sort(("row", (2,) * many)))
        for value in [("row", 2), ("row", [2]), ("row",), ("row", (2,), 3), ["row", (2,)], ("row", (31,)), ("row", (None,)),
                      ("rows", (2,)), ("row", ("",)), (("row",), (2,)), ("", ()), ("row", (True,)), ("row", (2, -1))]:
            self.says(False, is_sort(value))

    def test_ones(self):
        for many in range(7):
            self.says(many <= 4, is_sort(("one", tuple((word, 2) for word in "abcdef"[:many]))))
        for value in [("one", (("a", 2), ("a", 2))), ("one", (("A", 2),)), ("one", (("", 2),)), ("one", ("a", 2)),
                      ("one", (("abcdefghi", 2),)), ("one", (["a", 2],)), ("one", (("a", 2, 2),)), ("one", (("a", 31),)),
                      ("one", [("a", 2)]), ("one", ((0, 2),)), ("one", 2), ("one", (("a",),)), ("one",), ("one", None)]:
            self.says(False, is_sort(value))

    def test_sets_of_64_items(self):
        for many, inner in [(64, ("set", 6)), (64, ("row", (8, 8))), (64, ("one", (("a", 30), ("b", 30), ("c", 4)))),
                            (65, ("one", (("a", 30), ("b", 30), ("c", 5)))), (66, ("row", (11, 6))), (128, ("set", 7)),
                            (65, ("row", (5, 13))), (30, 30), (0, ("row", (30, 0))), (1, ("row", ()))]:
            self.assertEqual(count_items(inner), many)
            self.says(many <= 64, is_sort(("set", inner)))
            self.says(many <= 64, is_sort(("row", (0, ("set", inner)))))
        # What is far too great is not counted before it is refused.
        self.says(False, is_sort(("set", ("set", ("row", (30,) * 6)))))
        self.says(False, is_sort(("set", ("set", ("set", ("set", ("row", (30, 30))))))))
        for value in [("set", (2,)), ("set", None), ("set",), ("set", 2, 2), ("set", ()), ("set", "a"), ("set", [2])]:
            self.says(False, is_sort(value))

    def test_depth(self):
        for make in (lambda inner: ("row", (inner,)), lambda inner: ("one", (("a", inner),)),
                     lambda inner: ("row", (2, inner, 0))):
            for value in (2, ("row", ()), ("one", ())):
                for depth in range(1, 10):
                    self.says(depth <= 6, is_sort(value))
                    value = make(value)

    def test_sets_of_sets(self):
        value = 0
        for depth, count in enumerate([0, 1, 2, 4, 16, 65536], start=1):
            self.assertEqual(count_items(value), count)
            self.says(depth < 6, is_sort(("row", (value,))))
            value = ("set", value)
        self.says(False, is_sort(value))

    def test_size(self):
        sixes = (("row", (1,) * 6),) * 5
        for many in range(6):
            # 1 for the whole, 7 for each of the five rows, and 1 for the row of the rest.
            self.says(37 + many <= 40, is_sort(("row", sixes + (("row", (1,) * many),))))
        self.says(False, is_sort(("row", sixes + sixes[:1])))

    def test_any_values(self):
        good = [("row", ()), ("set", 0)]
        for value in odd_values():
            self.says(isinstance(value, tuple) and value in good, is_sort(value))
        for sort in SORTS + GREAT:
            self.says(True, is_sort(sort))
            for value in spoiled(sort):
                self.says(False, is_sort(value))
            for value in disturbed(sort):
                self.assertIn(is_sort(value), (True, False))


class Items(Asking):
    def test_against_slow_ones(self):
        for sort in SORTS:
            items = slow_items(sort)
            self.assertEqual(count_items(sort), len(items))
            self.assertEqual([item_at(sort, number) for number in range(len(items))], items)
            self.assertEqual([item_number(sort, item) for item in items], list(range(len(items))))

    def test_far_too_many(self):
        counts = [1 << 30, 1 << 64, 1 << 64, 1 << 384, 30 * 30 * 30 * 30 * 30 * 30]
        self.assertEqual([count_items(sort) for sort in GREAT[:5]], counts)
        for sort in GREAT:
            count = count_items(sort)
            for number in spread(count):
                item = item_at(sort, number)
                self.says(True, is_item(sort, item))
                self.assertEqual(item_number(sort, item), number)
                if number + 1 < count:
                    self.assertLess(item, item_at(sort, number + 1))
            self.refused(InvalidNumber, item_at, sort, count)

    def test_greatest_set(self):
        sort = ("set", ("set", 6))
        members = [item_at(("set", 6), number) for number in range(64)]
        full = ("",) + tuple(members)
        self.assertEqual([item_at(sort, 64), item_number(sort, full), item_number(sort, full[:1])], [full, 64, 0])
        self.assertEqual(item_at(sort, (1 << 64) - 1), ("", members[-1]))
        self.says(False, is_item(sort, full + (members[-1],)))
        self.says(False, is_item(sort, full + full[1:]))

    def test_sorts_without_items(self):
        for sort in (0, ("one", ()), ("row", (2, 0)), ("one", (("a", 0), ("b", ("row", (0,)))))):
            self.assertEqual(count_items(sort), 0)
            self.refused(InvalidNumber, item_at, sort, 0)
        self.assertEqual([count_items(("row", ())), item_at(("row", ()), 0), item_at(("set", 0), 0)], [1, (), ("",)])

    def test_any_values(self):
        for sort in SORTS:
            items = slow_items(sort)
            for value in odd_values():
                self.says(is_plainly(value, items), is_item(sort, value))
            for number in spread(len(items), 5):
                for value in spoiled(items[number]):
                    self.says(False, is_item(sort, value))
                for value in disturbed(items[number]):
                    self.says(is_plainly(value, items), is_item(sort, value))

    def test_any_values_for_items_of_great_sorts(self):
        for sort in GREAT:
            for value in odd_values():
                self.assertIn(is_item(sort, value), (True, False))
            item = item_at(sort, count_items(sort) // 3 + 1)
            for value in every(list(spoiled(item)), 100):
                self.says(False, is_item(sort, value))
            for value in every(list(disturbed(item)), 100):
                self.assertIn(is_item(sort, value), (True, False))

    def test_what_is_nearly_an_item(self):
        for value in [(), ("a",), (0,), (None,), ("", 0, 0), ("", 1, 0), ("", 3), ("", ""), ("", True), "", ["", 0]]:
            self.says(False, is_item(V, value))
        for value in [(1, ("c", 0)), (1, ("a", 3)), (1, ("b", 0)), (1, ("a",)), (1, ("a", 0, 0)), (1,), (1, ("a", 0), 0), (2, ("a", 0)),
                      (True, ("a", 0)), (1, ["a", 0])]:
            self.says(False, is_item(U, value))


class SortsOfKinds(Asking):
    def test_items_are_the_things(self):
        for kind in KINDS:
            sort = kind_sort(kind)
            self.says(True, is_sort(sort))
            self.assertEqual(slow_items(sort), things_of(kind))
            for thing in things_of(kind):
                self.assertEqual(item_number(sort, thing), number_of(kind, thing))

    def test_size(self):
        def wide(parts):
            return tuple((word, tuple((inner, 1) for inner in "abcdef"[:many])) for word, many in zip("uvwxyz", parts))

        for parts, size in [((6, 6, 6, 6, 6, 3), 40), ((6, 6, 6, 6, 6, 4), 41), ((6,) * 6, 43), ((1,), 3)]:
            if size <= 40:
                self.says(True, is_sort(kind_sort(wide(parts))))
            else:
                self.too_many(40, kind_sort, wide(parts))


class Errors(Asking):
    def test_no_sort(self):
        for sort in (None, True, 31, -1, (), "row", ["row", ()], ("row", [2]), ("set", ("set", 7))):
            self.refused(InvalidSort, is_item, sort, 0)
            self.refused(InvalidSort, count_items, sort)
            self.refused(InvalidSort, item_number, sort, None)
            self.refused(InvalidSort, item_at, sort, None)

    def test_no_item_and_no_number(self):
        for value in (None, True, ("", 1, 1), ["", 1], ("", 1, 0), (), ("", 3)):
            self.refused(InvalidItem, item_number, V, value)
        for value in (None, True, False, -1, 8, 10 ** 119, (0,), "0"):
            self.refused(InvalidNumber, item_at, V, value)
        for value in (None, True, 13, (), [("a", 2)], ("row", ())):
            self.refused(InvalidKind, kind_sort, value)


if __name__ == "__main__":
    unittest.main()
