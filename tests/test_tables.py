import unittest

from puttingback.errors import InvalidKind, InvalidTerm
from puttingback.tables import puts_of, showing_of
from tests.asking import Asking
from tests.samples import A_B as K
from tests.samples import KINDS, good_terms, slow_kind, slow_put, slow_shown, slow_things

S = ("sum", ("then", ("part", "a"), ("table", (0, 2), 3)), ("part", "b"))
FULL = (("a", 8), ("b", (("c", 8), ("d", 8))))
W = ("whole",)


class Examples(Asking):
    def test_as_they_stand(self):
        self.assertEqual([showing_of(K, S), puts_of(K, S)],
                         [(0, 1, 2, 2, 0, 1), ((0, None, 3), (4, 1, None), (None, 5, 2), (0, None, 3), (4, 1, None),
                                               (None, 5, 2))])


class Tables(Asking):
    def test_against_a_slow_reading(self):
        for kind in KINDS:
            things = slow_things(kind)
            for term in good_terms(kind, 30):
                worths = slow_things(slow_kind(kind, term))
                row = tuple(worths.index(slow_shown(kind, term, thing)) for thing in things)
                self.assertEqual(showing_of(kind, term), row)
                if len(worths) <= 12:
                    ends = [[slow_put(kind, term, thing, worth) for worth in worths] for thing in things]
                    table = tuple(tuple(things.index(end[1]) if end[0] == "thing" else None for end in row)
                                  for row in ends)
                    self.assertEqual(puts_of(kind, term), table)

    def test_no_things_and_no_worths(self):
        self.assertEqual([showing_of(0, W), puts_of(0, W), puts_of(0, ("fixed", 0, 3))], [(), (), ()])
        self.assertEqual([showing_of(1, W), puts_of(1, W)], [(0,), ((0,),)])

    def test_4096_puts(self):
        part = ("part", "a")
        self.assertEqual(len(puts_of(FULL, part)), 512)
        self.assertEqual(puts_of(FULL, part)[65], tuple(64 * worth + 1 for worth in range(8)))
        nine = (("a", 9), ("b", (("c", 8), ("d", 7))))
        self.assertEqual(len(showing_of(nine, part)), 504)
        self.too_many(4096, puts_of, nine, part)
        self.too_many(4096, puts_of, FULL, W)
        self.assertEqual(showing_of(FULL, W), tuple(range(512)))

    def test_64_things_and_worths(self):
        kind = (("a", 8), ("b", 8))
        self.assertEqual(puts_of(kind, W), (tuple(range(64)),) * 64)
        self.too_many(4096, puts_of, (("a", 6), ("b", 11)), W)


class Errors(Asking):
    def test_order(self):
        for function in (showing_of, puts_of):
            for kind in (None, True, 13, (), [("a", 2)]):
                self.refused(InvalidKind, function, kind, None)
            for term in (None, True, (), ["whole"], ("part", "c"), ("parts", (("a", W), ("b", W), ("c", W), ("d", W)))):
                self.refused(InvalidTerm, function, FULL, term)


if __name__ == "__main__":
    unittest.main()
