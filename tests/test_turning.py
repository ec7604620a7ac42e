import unittest

from puttingback.errors import InvalidKind, InvalidTerm
from puttingback.turning import first_unturned, turned_shares
from tests.asking import Asking
from tests.lifesamples import EIGHTS, GREAT, K, S
from tests.samples import KINDS, good_terms, slow_kind, slow_put, slow_shown, slow_things
from tests.test_roads import SQUARE
from tests.values import odd_values


def turns_back(kind, term, thing, worth):
    """Return whether a put turns back, or None if it is refused."""
    word, came = slow_put(kind, term, thing, worth)
    if word == "refused":
        return None
    return slow_put(kind, term, came, slow_shown(kind, term, thing)) == ("thing", thing)


def puts(kind, term):
    """Return all pairs of a thing and of a worth, in order."""
    return [(thing, worth) for thing in slow_things(kind) for worth in slow_things(slow_kind(kind, term))]


class Examples(Asking):
    def test_as_they_stand(self):
        self.assertEqual([first_unturned(3, ("table", (0, 0, 1), 2)), first_unturned(K, S), turned_shares(K, S), turned_shares(K, ("part", "b"))],
                         [(1, 1), None, None, (2, 2, 2)])


class Turning(Asking):
    def test_against_slow_puts(self):
        told = {"turned": 0, "refused": 0, "unturned": 0}
        for kind in KINDS:
            for term in good_terms(kind, 100):
                marks = {pair: turns_back(kind, term, *pair) for pair in puts(kind, term)}
                unturned = [pair for pair, mark in marks.items() if mark is False]
                self.assertEqual(first_unturned(kind, term), unturned[0] if unturned else None)
                worths = slow_things(slow_kind(kind, term))
                shows = [slow_shown(kind, term, thing) for thing in slow_things(kind)]
                shares = tuple(shows.count(worth) for worth in worths)
                if all(marks.values()):
                    self.assertEqual(turned_shares(kind, term), shares)
                    # Then each worth is shown of equally many things.
                    self.assertLessEqual(len(set(shares)), 1)
                    told["turned"] += 1
                else:
                    self.assertIsNone(turned_shares(kind, term))
                    told["unturned" if unturned else "refused"] += 1
        self.assertGreater(min(told.values()), 40, told)

    def test_no_things_and_one(self):
        self.assertEqual([first_unturned(0, ("whole",)), turned_shares(0, ("whole",)), turned_shares(0, ("fixed", 0, 3))], [None, (), (0, 0, 0)])
        self.assertEqual([first_unturned(1, ("whole",)), turned_shares(1, ("whole",)), turned_shares(1, ("fixed", 0, 1))], [None, (1,), (1,)])
        self.assertEqual([first_unturned(1, ("fixed", 0, 2)), turned_shares(1, ("fixed", 0, 2))], [None, None])
        kind = (("a", 2), ("b", 0))
        self.assertEqual([first_unturned(kind, ("part", "a")), turned_shares(kind, ("part", "a"))], [None, (0, 0)])

    def test_things_and_worths_that_are_rows(self):
        kind = (("a", (("b", 2), ("c", 2))), ("d", 2))
        self.assertEqual(turned_shares(kind, ("part", "a")), (2, 2, 2, 2))
        lossy = ("parts", (("x", ("then", ("part", "d"), ("table", (0, 0), 1))), ("y", ("then", ("part", "a"), ("part", "c")))))
        self.assertIsNone(first_unturned(kind, lossy))
        term = ("parts", (("x", ("table", (0, 0, 1), 2)),))
        self.assertEqual(first_unturned(3, term), (1, (1,)))

    def test_greatest(self):
        self.assertEqual([first_unturned(EIGHTS, GREAT), turned_shares(EIGHTS, GREAT)], [None, (64,) * 8])
        self.assertEqual([first_unturned(SQUARE, ("whole",)), turned_shares(SQUARE, ("whole",))], [None, (1,) * 64])
        for kind, term in ((EIGHTS, ("fixed", 0, 9)), (EIGHTS, ("whole",)), ((("a", 8), ("b", 9)), ("whole",))):
            self.too_many(4096, first_unturned, kind, term)
            self.too_many(4096, turned_shares, kind, term)


class Errors(Asking):
    def test_order(self):
        for function in (first_unturned, turned_shares):
            for value in [13, -1, True, (), [("a", 2)], (("a", 2), ("a", 2)), None]:
                self.refused(InvalidKind, function, value, None)
            for value in [value for value in odd_values() if value != ("whole",)] + [("part", "c"), None]:
                self.refused(InvalidTerm, function, K, value)
            self.refused(InvalidTerm, function, EIGHTS, ("fixed", 9, 9))


if __name__ == "__main__":
    unittest.main()
