import unittest

from puttingback.errors import InvalidItem, InvalidSort, TooFew
from puttingback.itemtexts import item_text
from puttingback.sortforms import least_beyond, least_common, led_item, lies_within, plain_sort
from puttingback.sorts import count_items, is_item, is_sort, item_at, item_number
from tests.asking import Asking
from tests.sortsamples import GREAT, SORTS, U, V, slow_items, slow_text, spread

# More sorts beside those of the samples, such that pairs of them have some items, and not all of them.
MORE = [("row", (("one", (("a", 12), ("b", 2))), 3)), ("row", (("one", (("a", 2), ("b", 2), ("c", 1))), 12)),
        ("row", (("one", (("a", 0), ("b", 3))), 2)), ("row", (3, ("one", (("b", ("row", ())),)))), ("row", (11, 11)),
        ("row", (12, 10)), ("row", (V, ("set", 2))), ("row", (("set", 2), V)), ("one", (("aa", 3), ("b", 12))),
        ("one", (("b", 11), ("aa", 4), ("c", 1))), ("set", ("one", (("a", 3), ("b", 2)))), ("set", ("one", (("a", 1), ("bb", 2)))),
        ("set", ("row", (3, 2))), ("row", (2, ("one", (("b", 0), ("a", 3))))), ("set", ("set", 1)), ("row", (("row", (3, 2)), 2)),
        ("one", (("a", ("one", (("c", 12), ("a", 1)))), ("b", ("row", (1,))))), ("row", (10, 2, 3)), ("row", (10, 11, 2))]
ALL = [(sort, slow_items(sort)) for sort in SORTS + MORE if count_items(sort) <= 300]


def least(sort, items):
    """Return the least one of some items of a sort."""
    return min(items, key=lambda item: (len(slow_text(sort, item)), slow_text(sort, item)), default=None)


class Examples(Asking):
    def test_as_they_stand(self):
        self.assertEqual([plain_sort(("row", (2, ("one", (("b", 0), ("a", 3)))))), plain_sort(("row", (2, 0))),
                          lies_within(("set", 2), ("set", 3)), least_beyond(("set", 12), ("set", 11)), least_beyond(2, 3)],
                         [("row", (2, ("one", (("a", 3),)))), 0, True, ("", 11), None])
        self.assertEqual([least_common(U, ("row", (5, ("one", (("b", ("row", ())),))))), least_common(U, V),
                          led_item(U, V, (1, ("b", ())))], [(0, ("b", ())), None, ("", 2)])


class PlainSorts(Asking):
    def test_forms(self):
        for sort, plain in [(0, 0), (30, 30), (("row", ()), ("row", ())), (("row", (3, 0, 2)), 0), (("one", ()), 0),
                            (("one", (("b", 2), ("a", 0))), ("one", (("b", 2),))), (("set", 0), ("set", 0)),
                            (("one", (("b", 2), ("a", 3))), ("one", (("a", 3), ("b", 2)))), (("set", ("row", (3, 0))), ("set", 0)),
                            (("set", ("one", (("b", 2), ("a", 3)))), ("set", ("one", (("a", 3), ("b", 2))))),
                            (("row", (("one", (("z", 1), ("b", 1))), ("set", ("one", ())))),
                             ("row", (("one", (("b", 1), ("z", 1))), ("set", 0)))), (("one", (("a", 0), ("b", ("one", ())))), 0)]:
            self.assertEqual(repr(plain_sort(sort)), repr(plain))

    def test_same_items_just_if_the_same_plain_sorts(self):
        for one, items in ALL:
            self.says(True, is_sort(plain_sort(one)))
            self.assertEqual(slow_items(plain_sort(one)), items)
            self.assertEqual(plain_sort(plain_sort(one)), plain_sort(one))
            for other, other_items in ALL:
                self.assertIs(plain_sort(one) == plain_sort(other), items == other_items)


class Pairs(Asking):
    def test_against_slow_ones(self):
        for one, items in ALL:
            for other, other_items in ALL:
                those = set(other_items)
                beyond = [item for item in items if item not in those]
                self.says(not beyond, lies_within(one, other))
                self.assertEqual(least_beyond(one, other), least(one, beyond), (one, other))
                self.assertEqual(least_common(one, other), least(one, [item for item in items if item in those]))

    def test_led_items(self):
        for one, items in ALL:
            for other, other_items in ALL[::3]:
                for number in spread(len(items), 3):
                    if number < len(other_items):
                        self.assertEqual(led_item(one, other, items[number]), other_items[number])
                    else:
                        self.refused(TooFew, led_item, one, other, items[number])

    def test_sorts_go_one_for_one_just_if_they_have_equally_many_items(self):
        for one, items in ALL:
            for other, other_items in ALL:
                if len(items) == len(other_items) <= 32:
                    led = [led_item(one, other, item) for item in items]
                    self.assertEqual(sorted(led), other_items)
                    self.assertEqual([led_item(other, one, item) for item in led], items)


class GreatSorts(Asking):
    def test_within_and_beyond(self):
        for sort in GREAT:
            self.says(True, lies_within(sort, sort))
            self.assertIsNone(least_beyond(sort, sort))
            for other in GREAT + SORTS:
                beyond, common = least_beyond(sort, other), least_common(sort, other)
                self.says(beyond is None, lies_within(sort, other))
                if beyond is not None:
                    self.assertEqual([is_item(sort, beyond), is_item(other, beyond)], [True, False])
                if common is not None:
                    self.assertEqual([is_item(sort, common), is_item(other, common)], [True, True])
                self.assertEqual(least_common(other, sort), common)

    def test_known_ones(self):
        nines = ("row", (("set", 30),) * 6)
        fewer = ("row", (("set", 30),) * 3 + (("set", 29),) * 2 + (("set", 11),))
        self.assertEqual(item_text(nines, least_beyond(nines, fewer)), "([] [] [] [29] [] [])")
        self.assertEqual(least_beyond(fewer, nines), None)
        self.assertEqual(least_common(fewer, nines), (("",),) * 6)
        # Of texts as long as each other the first one in Python's order is told, whichever part is beyond.
        two = ("row", (("set", 30), ("set", 30), ("set", 12)))
        self.assertEqual(item_text(two, least_beyond(two, ("row", (("set", 3), ("set", 5), ("set", 10))))), "([3] [] [])")
        self.assertEqual(item_text(two, least_beyond(two, ("row", (("set", 10), ("set", 5), ("set", 9))))), "([] [5] [])")
        self.assertEqual(item_text(two, least_beyond(two, ("row", (("set", 10), ("set", 30), ("set", 10))))),
                         "([10] [] [])")
        self.assertEqual(least_beyond(("row", (30,) * 6), ("row", (30,) * 5)), (0,) * 6)

    def test_led_items(self):
        one, other = ("set", ("set", 6)), ("set", ("row", (8, 8)))
        for number in spread(1 << 64, 20):
            led = led_item(one, other, item_at(one, number))
            self.assertEqual(item_number(other, led), number)
        self.assertEqual(led_item(("set", 30), GREAT[3], item_at(("set", 30), 77)), item_at(GREAT[3], 77))
        self.refused(TooFew, led_item, GREAT[3], one, item_at(GREAT[3], 1 << 64))


class Errors(Asking):
    def test_order(self):
        for sort in (None, True, 31, (), ("row", [2]), ("set", ("set", 7))):
            self.refused(InvalidSort, plain_sort, sort)
            for function in (lies_within, least_beyond, least_common):
                self.refused(InvalidSort, function, sort, 2)
                self.refused(InvalidSort, function, 2, sort)
            self.refused(InvalidSort, led_item, sort, 2, None)
            self.refused(InvalidSort, led_item, 2, sort, None)
        for item in (None, True, 2, -1, (0,), [0]):
            self.refused(InvalidItem, led_item, 2, 0, item)
        self.refused(TooFew, led_item, 2, 0, 0)
        self.refused(TooFew, led_item, 2, 1, 1)


if __name__ == "__main__":
    unittest.main()
