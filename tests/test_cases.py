import unittest
from itertools import product

from puttingback.cases import is_case, least_trail
from puttingback.errors import InvalidCase, InvalidLets, InvalidNumber
from tests.asking import Asking
from tests.casesamples import ALL_LETS, CHAIN, GREAT, M, W, all_trails, samples, slow_trail
from tests.values import disturbed, odd_values, places_of, replaced, spoiled, value_at

BAD_LETS = [((1, 0), (0, 1)), ((0, 1), (0, 1)), ((0, 2),), ((-1, 0),), ((0, 1, 0),), ((0,),), (0, 1), [(0, 1)], ([0, 1],),
            ((0, 1), None), None]


def slow_is_case(value):
    """Return whether what is built of rows is a case, read word by word."""
    def is_number(part, limit):
        return type(part) is int and 0 <= part < limit

    def is_tuple(part, length):
        return type(part) is tuple and len(part) == length

    if not is_tuple(value, 3) or not is_tuple(value[0], 2) or not is_number(value[0][0], 7):
        return False
    many, row = value[0]
    if type(row) is not tuple or len(row) > 12 or not all(is_number(worth, many) for worth in row):
        return False
    if not is_tuple(value[1], len(row)) or not all(is_tuple(ends, many) for ends in value[1]):
        return False
    for ends in value[1]:
        for worth, end in enumerate(ends):
            if end is not None and (not is_number(end, len(row)) or row[end] != worth):
                return False
    return is_tuple(value[2], len(row)) and all(is_number(stay, 12) for stay in value[2])


class Examples(Asking):
    def test_as_they_stand(self):
        self.assertEqual([is_case(W), least_trail(W, M, 0, 1), least_trail(W, M, 3, 2), least_trail(W, M[:2], 0, 1)],
                         [True, ((0, 1), (1, 1)), ((1, 1),), None])


class Cases(Asking):
    def test_limits(self):
        nothing = ((0, ()), (), ())
        refused = ((6, (5,) * 12), ((None,) * 6,) * 12, (11,) * 12)
        for value in [nothing, ((6, ()), (), ()), refused, CHAIN, GREAT, ((1, (0,)), ((0,),), (0,))]:
            self.says(True, is_case(value))
        for value in [((7, ()), (), ()), ((6, (5,) * 13), ((None,) * 6,) * 13, (11,) * 13), (refused[0], refused[1], (12,) * 12),
                      (refused[0], ((None,) * 5,) * 12, refused[2]), (refused[0], ((None,) * 6,) * 11, refused[2]),
                      (W[0], ((0, 2), (1, 3), (0, 2), (1, 1)), W[2]), (W[0], ((2, 2), (1, 3), (0, 2), (1, None)), W[2]),
                      W[:2], W + (0,), ((1, (0,)), ((0,),), ())]:
            self.says(False, is_case(value))

    def test_at_any_values(self):
        for value in odd_values():
            self.says(False, is_case(value))
        for case in (W, ((2, (0, 1)), ((0, None), (None, 1)), (0, 1))):
            for value in spoiled(case):
                self.says(False, is_case(value))
            for value in list(disturbed(case)):
                self.says(slow_is_case(value), is_case(value))
        # Each number in a case made another one.
        for path in places_of(W):
            if isinstance(value_at(W, path), int):
                for number in range(-1, 14):
                    value = replaced(W, path, number)
                    self.says(slow_is_case(value), is_case(value))

    def test_trails_against_all(self):
        lengths = set()
        for case, lets in samples(250):
            self.says(True, is_case(case))
            trails = all_trails(case, lets, "always")
            row = case[0][1]
            for one, other in product(range(len(row)), repeat=2):
                if row[one] == row[other]:
                    expected = slow_trail(trails, one, other)
                    self.assertEqual(least_trail(case, lets, one, other), expected)
                    lengths.add(len(expected or ()))
        self.assertGreaterEqual(lengths, {0, 1, 2, 3})

    def test_greatest(self):
        lets = ((0, 0),)
        self.assertEqual(least_trail(CHAIN, lets, 0, 1), ((0, 0),) * 10)
        self.assertEqual(least_trail(CHAIN, lets, 11, 0), ((0, 0),))
        self.assertIsNone(least_trail(CHAIN, lets, 11, 10))
        self.assertEqual(least_trail(GREAT, ALL_LETS, 0, 6), ((0, 0),))
        same = (GREAT[0], GREAT[1], tuple(thing % 6 for thing in range(12)))
        self.assertIsNone(least_trail(same, ALL_LETS, 0, 6))
        self.assertEqual(least_trail((GREAT[0], GREAT[1], (0,) * 11 + (1,)), ALL_LETS, 0, 6), ((0, 5),))

    def test_no_lets_and_all_refused(self):
        self.assertIsNone(least_trail(W, (), 0, 1))
        refused = (W[0], ((None, None),) * 4, W[2])
        self.assertIsNone(least_trail(refused, ((0, 0), (0, 1), (1, 0), (1, 1)), 0, 1))
        half = (W[0], ((None, 2), (None, None), (None, None), (None, None)), W[2])
        self.assertEqual(least_trail(half, M, 0, 1), ((0, 1),))


class Errors(Asking):
    def test_order(self):
        for value in odd_values() + [((7, ()), (), ()), W[:2], list(W)]:
            self.refused(InvalidCase, least_trail, value, None, None, None)
        for value in BAD_LETS + [value for value in odd_values() if value != ()] + list(spoiled(M)):
            self.refused(InvalidLets, least_trail, W, value, None, None)
        for value in (4, -1, None, True, (), "0"):
            self.refused(InvalidNumber, least_trail, W, M, value, 0)
            self.refused(InvalidNumber, least_trail, W, M, 0, value)
        self.refused(InvalidNumber, least_trail, W, M, 0, 2)
        self.refused(InvalidNumber, least_trail, ((0, ()), (), ()), (), 0, 0)
        self.refused(InvalidLets, least_trail, ((0, ()), (), ()), ((0, 0),), 0, 0)


if __name__ == "__main__":
    unittest.main()
