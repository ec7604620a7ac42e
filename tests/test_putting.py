import unittest

from puttingback.errors import InvalidKind, InvalidTerm
from puttingback.putting import changed_leaves, first_refusal, unlike_put
from tests.asking import Asking
from tests.samples import A_B as K
from tests.samples import K_C as L
from tests.samples import KINDS, at_path, good_terms, slow_kind, slow_leaves, slow_put, slow_things

S = ("sum", ("then", ("part", "a"), ("table", (0, 2), 3)), ("part", "b"))
T = ("test", ("part", "c"), (1,), ("then", ("part", "k"), S), ("fixed", 0, 3))
W = ("whole",)
FULL = (("a", 8), ("b", (("c", 8), ("d", 8))))
NINE = (("a", 9), ("b", (("c", 8), ("d", 7))))


def all_puts(kind, term):
    """Return the list of all things, worths and ends of puts."""
    worths = slow_things(slow_kind(kind, term))
    return [(thing, worth, slow_put(kind, term, thing, worth)) for thing in slow_things(kind) for worth in worths]


class Examples(Asking):
    def test_as_they_stand(self):
        self.assertEqual([first_refusal(K, S), first_refusal(K, ("part", "b")), unlike_put(K, S, ("part", "b")),
                          changed_leaves(K, S), changed_leaves(L, T)],
                         [((0, 0), 1, (0, 1)), None, ((0, 0), 1), [(0,)], [(0, 0)]])


class Putting(Asking):
    def test_refusals_and_changes_against_a_slow_reading(self):
        for kind in KINDS:
            for term in good_terms(kind, 24):
                puts = all_puts(kind, term)
                refused = [(thing, worth, came[1]) for thing, worth, came in puts if came[0] == "refused"]
                self.assertEqual(first_refusal(kind, term), refused[0] if refused else None)
                changed = [leaf for leaf in slow_leaves(kind)
                           if any(came[0] == "thing" and at_path(thing, leaf) != at_path(came[1], leaf)
                                  for thing, _, came in puts)]
                self.assertEqual(changed_leaves(kind, term), changed)

    def test_unlike_puts_against_a_slow_reading(self):
        for kind in KINDS:
            terms = good_terms(kind, 8)[::2]
            for one in terms:
                for other in terms:
                    if slow_kind(kind, one) != slow_kind(kind, other):
                        self.refused(InvalidTerm, unlike_put, kind, one, other)
                        continue
                    unlike = [(a[0], a[1]) for a, b in zip(all_puts(kind, one), all_puts(kind, other))
                              if a[2] != b[2] and "thing" in (a[2][0], b[2][0])]
                    self.assertEqual(unlike_put(kind, one, other), unlike[0] if unlike else None)

    def test_refused_at_unlike_paths_is_alike(self):
        two = ("then", ("then", W, ("table", (0, 0), 2)), W)
        self.assertEqual(unlike_put(2, ("table", (0, 0), 2), two), None)
        self.assertEqual(first_refusal(2, two), (0, 1, (0, 1)))

    def test_no_things(self):
        self.assertEqual([first_refusal(0, W), unlike_put(0, W, W), changed_leaves(0, W)], [None, None, []])

    def test_4096_puts(self):
        part = ("part", "a")
        self.assertEqual([first_refusal(FULL, part), unlike_put(FULL, part, part), changed_leaves(FULL, part)],
                         [None, None, [(0,)]])
        self.too_many(4096, first_refusal, NINE, part)
        self.too_many(4096, changed_leaves, NINE, part)
        self.too_many(4096, unlike_put, NINE, part, part)

    def test_new_lists(self):
        changed_leaves(K, S).append(None)
        self.assertEqual(changed_leaves(K, S), [(0,)])

    def test_greatest_term(self):
        lead = ("part", "a")
        for _ in range(6):
            lead = ("sum", lead, ("fixed", 1, 8))
        term = ("test", ("part", "a"), (0, 2, 4, 6), lead, lead)
        self.assertIsNone(first_refusal(FULL, term))
        self.assertEqual(changed_leaves(FULL, term), [(0,)])


class Errors(Asking):
    def test_order(self):
        for kind in (None, True, 13, (), [("a", 2)]):
            self.refused(InvalidKind, first_refusal, kind, None)
            self.refused(InvalidKind, changed_leaves, kind, None)
            self.refused(InvalidKind, unlike_put, kind, None, None)
        for term in (None, True, (), ["whole"], ("part", "c")):
            self.refused(InvalidTerm, first_refusal, NINE, term)
            self.refused(InvalidTerm, changed_leaves, NINE, term)
            self.refused(InvalidTerm, unlike_put, NINE, term, None)
            self.refused(InvalidTerm, unlike_put, NINE, term, ("part", "a"))
            self.refused(InvalidTerm, unlike_put, NINE, ("part", "a"), term)

    def test_unlike_kinds_of_worths_ahead_of_too_many(self):
        self.refused(InvalidTerm, unlike_put, NINE, ("part", "a"), ("part", "b"))
        self.refused(InvalidTerm, unlike_put, K, ("part", "a"), ("part", "b"))


if __name__ == "__main__":
    unittest.main()
