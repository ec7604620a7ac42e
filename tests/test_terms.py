import unittest

from puttingback.errors import InvalidKind, InvalidPath, InvalidTerm
from puttingback.terms import is_term, kind_shown, term_at
from tests.asking import Asking
from tests.samples import A_B as K
from tests.samples import K_C as L
from tests.samples import KINDS, all_inner, good_terms, slow_is_term, slow_kind, terms_over
from tests.values import disturbed, odd_values, spoiled

S = ("sum", ("then", ("part", "a"), ("table", (0, 2), 3)), ("part", "b"))
T = ("test", ("part", "c"), (1,), ("then", ("part", "k"), S), ("fixed", 0, 3))


class Examples(Asking):
    def test_as_they_stand(self):
        self.assertEqual([is_term(K, S), is_term(L, S), kind_shown(L, T),
                          kind_shown(K, ("parts", (("x", ("whole",)), ("y", S)))), term_at(L, T, (1, 1, 0, 1))],
                         [True, False, 3, (("x", (("a", 2), ("b", 3))), ("y", 3)), (("table", (0, 2), 3), 2)])


class Forms(Asking):
    def holds(self, kind, good, bad):
        for term in good:
            self.says(True, is_term(kind, term))
        for term in bad:
            self.says(False, is_term(kind, term))
            self.refused(InvalidTerm, kind_shown, kind, term)

    def test_whole_and_part(self):
        self.holds(K, [("whole",), ("part", "a"), ("part", "b")],
                   [("whole", ()), "whole", ("part",), ("part", "c"), ("part", 0), ("part", "a", "b"), ("part", ()),
                    ("wholly",), ("",), ("part", None), ["part", "a"], ((), "a")])
        self.holds(5, [("whole",)], [("part", "a"), ("part", 0)])

    def test_fixed(self):
        self.holds(0, [("fixed", 0, 1), ("fixed", 11, 12), ("fixed", 0, 12)],
                   [("fixed", 0, 0), ("fixed", 12, 12), ("fixed", 0, 13), ("fixed", -1, 3), ("fixed", False, 3),
                    ("fixed", 0, True), ("fixed", 0), ("fixed", 0, None), ("fixed", None, 3), ("fixed", 0, 3, 3)])

    def test_table(self):
        self.holds(3, [("table", (0, 0, 0), 1), ("table", (11, 0, 1), 12), ("table", (2, 1, 0), 3)],
                   [("table", (0, 0), 1), ("table", (0, 0, 0, 0), 1), ("table", (0, 0, 1), 1), ("table", (0, 0, 0), 13),
                    ("table", (0, 0, 0), 0), ("table", [0, 0, 0], 1), ("table", (0, 0, -1), 3), ("table", (0, 0, 0)),
                    ("table", (0, 0, True), 3), ("table", (0, 0, 0), True), ("table", 0, 3), ("table", None, 3)])
        self.holds(0, [("table", (), 0), ("table", (), 12)], [("table", (0,), 1), ("table", (), 13)])
        self.holds((("a", 2),), [], [("table", (0, 0), 1)])

    def test_parts(self):
        six = tuple((word, ("whole",)) for word in "abcdef")
        self.holds(2, [("parts", six), ("parts", six[:1])],
                   [("parts", six + (("g", ("whole",)),)), ("parts", ()), ("parts", (("A", ("whole",)),)),
                    ("parts", (("a", ("whole",)), ("a", ("whole",)))), ("parts", list(six)), ("parts", ("a", ("whole",))),
                    ("parts", (("a", ("part", "a")),)), ("parts",), ("parts", six, six), ("parts", (("a",),)),
                    ("parts", (["a", ("whole",)],))])

    def test_parts_that_show_no_kind(self):
        self.holds(8, [("parts", tuple((word, ("whole",)) for word in "abc"))],
                   [("parts", tuple((word, ("whole",)) for word in "abcd"))])
        deep = (("a", (("b", (("c", 2),)),)),)
        self.holds(deep, [("parts", (("x", ("part", "a")),))], [("parts", (("x", ("whole",)),))])
        # What is shown on the way must be a kind, too.
        self.holds(deep, [], [("then", ("parts", (("x", ("whole",)),)), ("part", "x"))])

    def test_then(self):
        self.holds(L, [("then", ("part", "k"), S), ("then", ("whole",), ("whole",))],
                   [("then", S, ("part", "k")), ("then", ("part", "k")), ("then", ("part", "k"), S, S),
                    ("then", ("part", "c"), ("part", "c")), ("then", ("part", "k"), None), ("then", None, ("whole",))])

    def test_sum_and_less(self):
        for word in ("sum", "less"):
            self.holds(K, [(word, ("part", "a"), ("part", "a")), (word, ("part", "b"), ("fixed", 0, 3)),
                           (word, ("fixed", 0, 1), ("fixed", 0, 1))],
                       [(word, ("part", "a"), ("part", "b")), (word, ("whole",), ("whole",)), (word, ("part", "a")),
                        (word, ("whole",), ("part", "a")), (word, ("part", "a"), ("whole",)), (word,),
                        (word, ("part", "a"), ("part", "a"), ("part", "a"))])
            self.holds(0, [], [(word, ("whole",), ("whole",)), (word, ("table", (), 0), ("table", (), 0))])
            self.holds(1, [(word, ("whole",), ("whole",))], [])

    def test_test(self):
        P, W, F = ("part", "b"), ("whole",), ("fixed", 0, 3)
        self.holds(K, [("test", P, (), W, W), ("test", P, (0, 1, 2), P, F), ("test", P, (0, 2), P, P)],
                   [("test", P, (0, 0), W, W), ("test", P, (1, 0), W, W), ("test", P, (3,), W, W), ("test", P, (-1,), W, W),
                    ("test", P, [0], W, W), ("test", P, 0, W, W), ("test", W, (0,), W, W), ("test", P, (0,), W, P),
                    ("test", P, (True,), W, W), ("test", P, (0,), W), ("test", P, (0,), P, ("part", "a")),
                    ("test", P, (0,), W, W, W), ("test", P, (0,), None, W), ("test", P, (0,), W, None), ("test", P, W, W)])
        self.holds(0, [("test", W, (), ("fixed", 0, 2), ("fixed", 1, 2)), ("test", W, (), W, W)],
                   [("test", W, (0,), W, W)])

    def test_depth(self):
        term = ("whole",)
        for depth in range(1, 11):
            self.says(depth <= 8, is_term(2, term))
            term = ("then", ("whole",), term)

    def test_size(self):
        def chain(many):
            return ("whole",) if many == 1 else ("then", ("whole",), ("whole",)) if many == 3 else None

        three, wholes = chain(3), ("whole",)
        twelve = ("parts", tuple((word, inner) for word, inner in zip("abcde", (three, three, three, wholes, wholes))))
        self.assertEqual(sum(1 for _ in all_inner(1, twelve)), 12)
        for sizes in ((twelve, twelve, twelve, three), (twelve, twelve, twelve, three, wholes)):
            term = ("parts", tuple(zip("uvwxyz", sizes)))
            size = sum(1 for _ in all_inner(1, term))
            self.assertIn(size, (40, 41))
            self.says(size == 40, is_term(1, term))
            if size == 40:
                self.says(False, is_term(1, ("then", ("whole",), term)))


class Terms(Asking):
    def test_kinds_shown_and_paths(self):
        for kind in KINDS:
            for term in terms_over(kind):
                good = slow_is_term(kind, term)
                self.says(good, is_term(kind, term))
                if good:
                    self.assertEqual(kind_shown(kind, term), slow_kind(kind, term))
                    for path, inner, over in all_inner(kind, term):
                        self.assertEqual(term_at(kind, term, path), (inner, over))

    def test_any_values(self):
        for kind in KINDS:
            for value in odd_values():
                self.says(isinstance(value, tuple) and value == ("whole",), is_term(kind, value))
        for kind in (K, L, 3):
            for term in good_terms(kind, 20):
                for value in spoiled(term):
                    self.says(False, is_term(kind, value))
                for value in disturbed(term):
                    self.assertIn(is_term(kind, value), (True, False))


class Errors(Asking):
    def test_order(self):
        for kind in (None, True, 13, [0]):
            self.refused(InvalidKind, is_term, kind, ("whole",))
            self.refused(InvalidKind, kind_shown, kind, None)
            self.refused(InvalidKind, term_at, kind, None, None)
        self.refused(InvalidTerm, kind_shown, K, T)
        self.refused(InvalidTerm, term_at, K, T, None)

    def test_paths(self):
        for path in (None, [], [0], 0, (3,), (-1,), (True,), (False,), ("0",), (0, 0), (1, 0, 0), (2, 0), (1, 1, 1, 0),
                     (None,), ((),), (1, 2), (0,) * 1000):
            self.refused(InvalidPath, term_at, L, T, path)
        self.assertEqual(term_at(L, T, ()), (T, L))
        self.assertEqual(term_at(L, T, (2,)), (("fixed", 0, 3), L))
        self.assertEqual(term_at(K, ("parts", (("x", S), ("y", ("part", "b")))), (1,)), (("part", "b"), K))


if __name__ == "__main__":
    unittest.main()
