import unittest
from itertools import combinations

from puttingback.errors import InvalidCase, InvalidKeys, InvalidLets
from puttingback.letting import lets_always, lets_once
from tests.asking import Asking
from tests.casesamples import ALL_LETS, CHAIN, GREAT, M, W, all_keys, all_trails, lets_of, samples, slow_hold
from tests.chance import Chance
from tests.test_cases import BAD_LETS
from tests.test_keeping import BAD_KEYS
from tests.values import odd_values, spoiled


def calm_samples(many):
    """Return pairs of a case and of lets, in which but few things are unlike, so that mostly only rows of lets part them."""
    found = []
    for seed in range(many):
        chance = Chance(seed)
        row = tuple(sorted(chance.numbers(5, 2)))
        ends = [[thing for thing in range(5) if row[thing] == worth] for worth in (0, 1)]
        puts = tuple(tuple(chance.one_of(one) if one else None for one in ends) for _ in row)
        # One thing of one of the worths is unlike the others, or one of each.
        stays = tuple(int(thing in (0, 4) and chance.below(3) > 0) for thing in range(5))
        found.append((((2, row), puts, stays), ((0, 0), (0, 1), (1, 0), (1, 1))))
    return found


class Examples(Asking):
    def test_as_they_stand(self):
        self.assertEqual([lets_once(W, (0, 0, 0, 0)), lets_always(W, (0, 0, 0, 0), M), lets_always(W, (0, 0, 0, 1), M)],
                         [((0, 0), (0, 1), (1, 0)), [((0, 1), (1, 0))], [((0, 1), (1, 0)), ((1, 0), (1, 1))]])


class Lets(Asking):
    def test_lets_once(self):
        for case, _ in samples(200):
            changes = lets_of(case)
            for keys in all_keys(case)[::5]:
                expected = [change for change in changes if slow_hold(case, all_trails(case, (change,), "once"), keys)]
                self.assertEqual(lets_once(case, keys), tuple(expected))
                # With all of these, and with no more, keys hold once.
                self.assertTrue(slow_hold(case, all_trails(case, expected, "once"), keys))
                for change in set(changes) - set(expected):
                    self.assertFalse(slow_hold(case, all_trails(case, expected + [change], "once"), keys))

    def test_lets_always(self):
        counts = set()
        for case, lets in samples(60, 4, 5) + calm_samples(60):
            things = len(case[0][1])
            for keys in all_keys(case)[::13] + [tuple(int(thing == other) for thing in range(things)) for other in range(things)]:
                holding = []
                for length in range(len(lets) + 1):
                    holding += [row for row in combinations(lets, length)
                                if slow_hold(case, all_trails(case, row, "always"), keys)]
                greatest = [row for row in holding if not any(set(row) < set(other) for other in holding)]
                self.assertEqual(lets_always(case, keys, lets), sorted(greatest))
                counts.add(len(greatest))
        self.assertGreaterEqual(counts, {1, 2})

    def test_no_things_and_no_lets(self):
        nothing = ((2, ()), (), ())
        self.assertEqual([lets_once(nothing, ()), lets_always(nothing, (), M), lets_always(nothing, (), ())],
                         [((0, 0), (0, 1), (1, 0), (1, 1)), [M], [()]])
        self.assertEqual([lets_once(((0, ()), (), ()), ()), lets_always(W, (0, 0, 0, 0), ())], [(), [()]])

    def test_all_refused(self):
        refused = (W[0], ((None, None),) * 4, W[2])
        self.assertEqual([lets_once(refused, (0, 0, 0, 0)), lets_always(refused, (0, 0, 0, 0), M)],
                         [((0, 0), (0, 1), (1, 0), (1, 1)), [M]])

    def test_greatest(self):
        self.assertEqual(lets_once(GREAT, (0,) * 12), ())
        self.assertEqual(lets_once(GREAT, tuple(thing // 6 for thing in range(12))), ALL_LETS)
        self.assertEqual(lets_always(GREAT, (0,) * 12, ALL_LETS[:6]), [()])
        self.assertEqual(lets_always(GREAT, tuple(range(12)), ALL_LETS[30:]), [ALL_LETS[30:]])
        self.assertEqual(lets_always(CHAIN, (0, 0) + tuple(range(1, 11)), ((0, 0),)), [()])
        stays = tuple(thing % 6 for thing in range(12))
        self.assertEqual(lets_always((GREAT[0], GREAT[1], stays), (0,) * 12, ALL_LETS[:6]), [ALL_LETS[:6]])


class Errors(Asking):
    def test_order(self):
        for value in (None, ((7, ()), (), ()), W[:2], list(W)):
            self.refused(InvalidCase, lets_once, value, None)
            self.refused(InvalidCase, lets_always, value, None, None)
        for value in BAD_KEYS + odd_values() + list(spoiled((0, 1, 0, 1))):
            self.refused(InvalidKeys, lets_once, W, value)
            self.refused(InvalidKeys, lets_always, W, value, None)
        for value in BAD_LETS:
            self.refused(InvalidLets, lets_always, W, (0, 0, 0, 0), value)

    def test_seven_lets(self):
        self.too_many(6, lets_always, GREAT, (0,) * 12, ALL_LETS[:7])
        self.too_many(6, lets_always, GREAT, (0,) * 12, ALL_LETS)
        self.refused(InvalidLets, lets_always, GREAT, (0,) * 12, ALL_LETS[:7] + (None,))
        self.refused(InvalidKeys, lets_always, GREAT, (0,) * 11, ALL_LETS[:7])


if __name__ == "__main__":
    unittest.main()
