import unittest

from puttingback.errors import InvalidCase, InvalidKeys, InvalidLets, InvalidOften
from puttingback.keeping import keys_hold
from puttingback.staying import firm_stays
from tests.asking import Asking
from tests.casesamples import ALL_LETS, CHAIN, GREAT, M, W, all_keys, all_trails, samples, slow_hold
from tests.test_cases import BAD_LETS
from tests.test_keeping import BAD_KEYS
from tests.test_keptputs import tidy_asides
from tests.values import odd_values


def slow_firm(case, lets, keys, often):
    """Return the firm stays for keys, or None: of all stays that divide things otherwise, those that must be so."""
    things = len(case[0][1])
    holding = []
    # Only by which things have the same stay do stays matter, so that tidy ones are enough.
    for stays in tidy_asides(things):
        other = (case[0], case[1], stays)
        if slow_hold(other, all_trails(other, lets, often), keys):
            holding.append(stays)
    for stays in holding:
        pairs = [(one, two) for one in range(things) for two in range(one) if stays[one] == stays[two]]
        if all(other[one] == other[two] for one, two in pairs for other in holding):
            return stays
    return None


class Examples(Asking):
    def test_as_they_stand(self):
        self.assertEqual([firm_stays(W, M, (0, 0, 0, 1), often) for often in ("once", "always")], [(0, 1, 2, 2), None])
        self.assertEqual(firm_stays(W, M[:2], (0, 0, 0, 0), "always"), (0, 0, 1, 1))


class Stays(Asking):
    def test_against_all_stays(self):
        found = []
        for case, lets in samples(120, 4, 5):
            for keys in all_keys(case)[::9]:
                for often in ("once", "always"):
                    expected = slow_firm(case, lets, keys, often)
                    self.assertEqual(firm_stays(case, lets, keys, often), expected)
                    found.append(expected)
                    if expected is not None:
                        self.says(True, keys_hold((case[0], case[1], expected), lets, keys, often))
        self.assertGreater(len(set(found)), 15)
        self.assertIn(None, found)

    def test_own_stays_do_not_matter(self):
        for stays in ((0, 0, 0, 0), (11, 3, 11, 5)):
            self.assertEqual(firm_stays((W[0], W[1], stays), M, (0, 0, 0, 1), "once"), (0, 1, 2, 2))

    def test_no_things_and_no_lets(self):
        for often in ("once", "always"):
            self.assertEqual([firm_stays(((2, ()), (), ()), M, (), often), firm_stays(W, (), (0, 0, 0, 0), often)],
                             [(), (0, 1, 2, 3)])
            self.assertEqual(firm_stays((W[0], ((None, None),) * 4, W[2]), M, (0, 0, 0, 0), often), (0, 1, 2, 3))

    def test_greatest(self):
        self.assertEqual(firm_stays(CHAIN, ((0, 0),), (0, 0) + tuple(range(1, 11)), "once"), (0, 1, 1) + tuple(range(2, 11)))
        self.assertEqual(firm_stays(CHAIN, ((0, 0),), (0, 0) + tuple(range(1, 11)), "always"), (0,) + (1,) * 11)
        self.assertEqual(firm_stays(GREAT, ALL_LETS, tuple(range(12)), "always"), tuple(range(12)))
        self.assertEqual(firm_stays(GREAT, ALL_LETS, (0,) * 12, "always"), (0, 1, 2, 3, 4, 5) * 2)


class Errors(Asking):
    def test_order(self):
        for value in (None, ((7, ()), (), ()), W[:2], list(W)):
            self.refused(InvalidCase, firm_stays, value, None, None, None)
        for value in BAD_LETS:
            self.refused(InvalidLets, firm_stays, W, value, None, None)
        for value in BAD_KEYS:
            self.refused(InvalidKeys, firm_stays, W, M, value, None)
        for value in [None, True, "never"] + odd_values():
            self.refused(InvalidOften, firm_stays, W, M, (0, 0, 0, 0), value)


if __name__ == "__main__":
    unittest.main()
