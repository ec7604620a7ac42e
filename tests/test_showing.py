import unittest

from puttingback.errors import InvalidKind, InvalidTerm, InvalidThing, InvalidWorth
from puttingback.showing import put_back, shown
from tests.asking import Asking
from tests.samples import A_B as K
from tests.samples import K_C as L
from tests.samples import KINDS, good_terms, slow_kind, slow_put, slow_shown, slow_things

S = ("sum", ("then", ("part", "a"), ("table", (0, 2), 3)), ("part", "b"))
T = ("test", ("part", "c"), (1,), ("then", ("part", "k"), S), ("fixed", 0, 3))
W = ("whole",)


class Examples(Asking):
    def test_as_they_stand(self):
        self.assertEqual([shown(K, S, (1, 2)), put_back(K, S, (1, 2), 2), put_back(K, S, (1, 2), 0),
                          shown(L, T, ((1, 2), 0)), put_back(L, T, ((1, 2), 1), 0)],
                         [1, ("thing", (0, 2)), ("refused", (0, 1)), 0, ("refused", (1, 1, 0, 1))])
        self.assertEqual([put_back(K, ("parts", (("x", S), ("y", ("part", "b")))), (0, 0), (2, 2)),
                          put_back(K, ("parts", (("x", S), ("y", ("part", "b")))), (0, 0), (2, 0))],
                         [("refused", ()), ("thing", (1, 0))])


class Words(Asking):
    def test_whole_and_part(self):
        self.assertEqual([shown(K, W, (1, 2)), put_back(K, W, (1, 2), (0, 1))], [(1, 2), ("thing", (0, 1))])
        self.assertEqual([shown(L, ("part", "k"), ((1, 2), 0)), put_back(L, ("part", "k"), ((1, 2), 1), (0, 0))],
                         [(1, 2), ("thing", ((0, 0), 1))])

    def test_fixed(self):
        self.assertEqual([shown(K, ("fixed", 2, 3), (0, 0)), put_back(K, ("fixed", 2, 3), (1, 0), 2),
                          put_back(K, ("fixed", 2, 3), (1, 0), 0)], [2, ("thing", (1, 0)), ("refused", ())])

    def test_table_takes_the_thing_or_the_first_one(self):
        table = ("table", (1, 0, 1, 0), 3)
        self.assertEqual([put_back(4, table, thing, worth) for thing in (2, 3) for worth in (0, 1, 2)],
                         [("thing", 1), ("thing", 2), ("refused", ()), ("thing", 3), ("thing", 0), ("refused", ())])

    def test_then_refused_within(self):
        inner = ("then", ("part", "b"), ("then", ("table", (0, 1, 0), 3), ("table", (0, 0, 1), 3)))
        # The inner table has 2 for 1, which the outer one never shows.
        self.assertEqual(put_back(K, inner, (0, 1), 1), ("refused", (1, 0)))
        self.assertEqual(put_back(K, inner, (0, 1), 2), ("refused", (1, 1)))
        self.assertEqual(put_back(K, inner, (0, 1), 0), ("thing", (0, 1)))
        self.assertEqual(put_back(K, ("then", ("fixed", 1, 2), W), (0, 1), 0), ("refused", (0,)))

    def test_parts_in_turn(self):
        both = ("parts", (("x", ("part", "a")), ("y", ("fixed", 0, 1)), ("z", ("part", "a"))))
        self.assertEqual([put_back(K, both, (0, 2), (1, 0, 1)), put_back(K, both, (0, 2), (1, 0, 0))],
                         [("thing", (1, 2)), ("refused", ())])
        refusing = ("parts", (("x", ("fixed", 1, 2)), ("y", ("fixed", 1, 2))))
        self.assertEqual([put_back(K, refusing, (0, 2), worth) for worth in ((0, 0), (1, 0), (0, 1), (1, 1))],
                         [("refused", (0,)), ("refused", (1,)), ("refused", (0,)), ("thing", (0, 2))])

    def test_sum_and_less(self):
        for word, ends in (("sum", (1, 2, 0)), ("less", (2, 0, 1))):
            term = (word, ("part", "b"), ("fixed", 2, 3))
            self.assertEqual([put_back(K, term, (1, 1), worth) for worth in range(3)],
                             [("thing", (1, end)) for end in (ends if word == "sum" else ends)])
            self.assertEqual(shown(K, term, (1, 1)), 0 if word == "sum" else 2)
        # The one is put into what the two shows as well: twice a number is shown, and 1 is not shown at last.
        double = ("sum", ("part", "b"), ("part", "b"))
        self.assertEqual([put_back(K, double, (0, 1), worth) for worth in range(3)],
                         [("refused", ()), ("refused", ()), ("thing", (0, 1))])

    def test_test(self):
        term = ("test", ("part", "b"), (0, 2), ("part", "a"), ("fixed", 1, 2))
        self.assertEqual([put_back(K, term, (0, 2), 1), put_back(K, term, (0, 1), 1), put_back(K, term, (0, 1), 0)],
                         [("thing", (1, 2)), ("thing", (0, 1)), ("refused", (2,))])
        # A put can lead to the other side: if the worth is shown there it is good, otherwise it is refused at last.
        other = ("test", W, (0,), W, ("table", (0, 1, 1), 3))
        self.assertEqual([put_back(3, other, 0, worth) for worth in range(3)],
                         [("thing", 0), ("thing", 1), ("refused", ())])
        self.assertEqual(put_back(2, ("test", W, (), ("fixed", 0, 2), W), 1, 0), ("thing", 0))
        self.assertEqual(put_back(2, ("test", W, (0, 1), W, ("fixed", 0, 2)), 1, 0), ("thing", 0))

    def test_refusals_at_each_sort_of_term(self):
        deep = ("then", ("part", "k"), ("parts", (("v", ("less", ("then", ("part", "b"), ("table", (0, 1, 1), 3)),
                                                          ("fixed", 0, 3))),)))
        self.assertEqual(put_back(L, deep, ((0, 0), 0), (2,)), ("refused", (1, 0, 0, 1)))
        self.assertEqual(put_back(L, ("test", ("part", "c"), (), deep, deep), ((0, 0), 0), (2,)),
                         ("refused", (2, 1, 0, 0, 1)))


class Puts(Asking):
    def test_against_a_slow_reading(self):
        for kind in KINDS:
            things = slow_things(kind)
            for term in good_terms(kind):
                worths = slow_things(slow_kind(kind, term))
                for thing in things:
                    self.assertEqual(shown(kind, term, thing), slow_shown(kind, term, thing))
                for thing in things[:3] + things[-2:]:
                    for worth in worths[:5] + worths[-3:]:
                        self.assertEqual(put_back(kind, term, thing, worth), slow_put(kind, term, thing, worth),
                                         (kind, term, thing, worth))


class Errors(Asking):
    def test_order(self):
        for kind in (None, True, 13, (), [("a", 2)]):
            self.refused(InvalidKind, shown, kind, None, None)
            self.refused(InvalidKind, put_back, kind, None, None, None)
        for term in (None, True, (), ["whole"], ("part", "c"), T):
            self.refused(InvalidTerm, shown, K, term, None)
            self.refused(InvalidTerm, put_back, K, term, None, None)
        for thing in (None, (2, 0), [0, 0], (True, 0), (0,), 0):
            self.refused(InvalidThing, shown, K, S, thing)
            self.refused(InvalidThing, put_back, K, S, thing, None)
        for worth in (None, 3, -1, True, (0,), [0], "0", 10 ** 119):
            self.refused(InvalidWorth, put_back, K, S, (0, 0), worth)
        self.refused(InvalidWorth, put_back, K, W, (0, 0), [0, 0])

    def test_kinds_without_things(self):
        self.refused(InvalidThing, shown, 0, W, 0)
        self.refused(InvalidThing, put_back, 0, ("fixed", 0, 1), 0, 0)
        self.refused(InvalidWorth, put_back, 2, ("parts", (("x", W), ("y", W))), 1, (0,))


if __name__ == "__main__":
    unittest.main()
