import unittest

from puttingback.errors import InvalidKind, InvalidNumber, InvalidThing
from puttingback.kinds import count_of, is_kind, is_thing, leaves_of, number_of, thing_at, things_of
from tests.asking import Asking
from tests.samples import A_B as K
from tests.samples import K_C as L
from tests.samples import KINDS, slow_leaves, slow_things
from tests.values import disturbed, odd_values, spoiled

FULL = (("a", 8), ("b", (("c", 8), ("d", 8))))


class Examples(Asking):
    def test_as_they_stand(self):
        self.assertEqual([is_kind(K), is_kind((("a", 2), ("a", 3))), is_kind(13), is_thing(K, (1, 2)),
                          is_thing(K, (2, 0)), count_of(L), things_of(K)[:4]],
                         [True, False, False, True, False, 12, [(0, 0), (0, 1), (0, 2), (1, 0)]])
        self.assertEqual([number_of(L, ((1, 2), 0)), thing_at(L, 10), leaves_of(L), leaves_of(5),
                          things_of((("a", 2), ("b", 0)))],
                         [10, ((1, 2), 0), [(0, 0), (0, 1), (1,)], [()], []])


class Kinds(Asking):
    def test_integers(self):
        for value in range(-3, 20):
            self.says(0 <= value <= 12, is_kind(value))

    def test_words(self):
        for word, good in [("a", 1), ("z", 1), ("abcdefgh", 1), ("abcdefghi", 0), ("", 0), ("A", 0), ("a1", 0),
                           ("a b", 0), ("a\n", 0), ("{", 0), ("`", 0), (0, 0), (None, 0), (("a",), 0), ("ab" * 2, 1)]:
            self.says(bool(good), is_kind(((word, 2),)))

    def test_parts(self):
        letters = "abcdefg"
        for many in range(8):
            self.says(1 <= many <= 6, is_kind(tuple((letter, 1) for letter in letters[:many])))
        for value in [(("a", 2, 3),), (("a",),), ("a", 2), (2,), (("a", 13),), (("a", -1),), (("b", 2), ("b", 2)),
                      (("a", 2), None), ((("a", 2),),), (("a", ()),)]:
            self.says(False, is_kind(value))

    def test_depth(self):
        value = 2
        for depth in range(6):
            self.says(depth <= 3, is_kind(value))
            value = (("b", 1), ("a", value))

    def test_many_things(self):
        self.says(True, is_kind(FULL))
        self.assertEqual([count_of(FULL), len(things_of(FULL)), thing_at(FULL, 511)], [512, 512, (7, (7, 7))])
        self.says(False, is_kind((("a", 9), ("b", (("c", 8), ("d", 8))))))
        self.says(False, is_kind((("a", 3), ("b", 9), ("c", 19))))
        self.says(True, is_kind((("a", 12), ("b", 12), ("c", 3))))
        self.says(False, is_kind((("a", 12), ("b", 12), ("c", 4))))
        self.says(True, is_kind((("a", 12), ("b", 12), ("c", 12), ("d", 0))))
        # What stands in a kind is a kind, too, even where the whole has no things.
        self.says(False, is_kind((("a", 0), ("b", (("c", 12), ("d", 12), ("e", 12))))))

    def test_one_thing(self):
        ones = tuple((word, 1) for word in "abcdef")
        wide = tuple((word, tuple((inner, ones) for inner in "uvwxyz")) for word in "abcdef")
        self.says(True, is_kind(wide))
        self.assertEqual([count_of(wide), len(leaves_of(wide)), len(things_of(wide))], [1, 216, 1])
        self.assertEqual([things_of(1), things_of((("a", 1),)), number_of(1, 0)], [[0], [(0,)], 0])

    def test_no_things(self):
        for kind in (0, (("a", 0),), (("a", 3), ("b", (("c", 0),)))):
            self.assertEqual([is_kind(kind), count_of(kind), things_of(kind)], [True, 0, []])
            self.refused(InvalidNumber, thing_at, kind, 0)

    def test_any_values(self):
        good = [(("a", 2),)]
        for value in odd_values():
            self.says(isinstance(value, tuple) and value in good, is_kind(value))
        for kind in KINDS:
            self.says(True, is_kind(kind))
            for value in spoiled(kind):
                self.says(False, is_kind(value))
            for value in disturbed(kind):
                self.assertIn(is_kind(value), (True, False))


class Things(Asking):
    def test_against_slow_ones(self):
        for kind in KINDS:
            things = slow_things(kind)
            self.assertEqual([things_of(kind), count_of(kind), leaves_of(kind)],
                             [things, len(things), slow_leaves(kind)])
            for number, thing in enumerate(things):
                self.says(True, is_thing(kind, thing))
                self.assertEqual([number_of(kind, thing), thing_at(kind, number)], [number, thing])

    def test_any_values(self):
        for kind in KINDS:
            things = slow_things(kind)
            for value in odd_values():
                plain = value in things and not isinstance(value, bool) and "True" not in repr(value)
                self.says(plain, is_thing(kind, value))
            for thing in things[:6]:
                for value in spoiled(thing):
                    self.says(False, is_thing(kind, value))

    def test_limits(self):
        self.assertEqual([is_thing(3, 2), is_thing(3, 3), is_thing(3, -1), is_thing(0, 0)], [True, False, False, False])
        self.assertEqual([is_thing(K, (1,)), is_thing(K, (1, 2, 0)), is_thing(K, (1, 3)), is_thing(K, ())], [False] * 4)

    def test_new_lists(self):
        for function in (things_of, leaves_of):
            first = function(K)
            first.append(None)
            self.assertNotEqual(first, function(K))


class Errors(Asking):
    def test_no_kind(self):
        for kind in (13, -1, True, None, (), [("a", 2)], "a"):
            self.refused(InvalidKind, is_thing, kind, 0)
            self.refused(InvalidKind, count_of, kind)
            self.refused(InvalidKind, things_of, kind)
            self.refused(InvalidKind, number_of, kind, None)
            self.refused(InvalidKind, thing_at, kind, None)
            self.refused(InvalidKind, leaves_of, kind)

    def test_no_thing_and_no_number(self):
        for value in (None, True, (2, 0), [1, 2], (1, 2, 0), "", (True, 0)):
            self.refused(InvalidThing, number_of, K, value)
        for value in (None, True, False, -1, 6, 10 ** 119, (0,), "0"):
            self.refused(InvalidNumber, thing_at, K, value)


if __name__ == "__main__":
    unittest.main()
