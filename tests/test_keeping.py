import unittest

from puttingback.errors import InvalidCase, InvalidKeys, InvalidLets, InvalidOften
from puttingback.keeping import answers_by, first_parted, keys_go_on, keys_hold, least_keys, renewals_by
from tests.asking import Asking
from tests.casesamples import (ALL_LETS, CHAIN, GREAT, M, W, all_keys, all_trails, samples, slow_alike, slow_hold,
                               slow_trail)
from tests.test_cases import BAD_LETS
from tests.values import odd_values, spoiled

SAMPLES = samples(150, 4, 6)
BAD_KEYS = [(0, 0, 0), (0, 0, 0, 0, 0), (0, 0, 0, 12), (0, 0, 0, -1), [0, 0, 0, 0], (0, 0, 0, None), None]


def slow_least_keys(case, trails):
    """Return the least keys, read word by word."""
    row = case[0][1]
    keys = []
    for thing in range(len(row)):
        ahead = [other for other in range(thing) if row[other] == row[thing]]
        alike = [other for other in ahead if slow_trail(trails, other, thing) is None]
        taken = {keys[other] for other in ahead}
        keys.append(keys[alike[0]] if alike else min(number for number in range(13) if number not in taken))
    return tuple(keys)


def slow_go_on(case, lets, keys):
    """Return whether keys go on, read word by word."""
    (_, row), puts, _ = case
    if not slow_hold(case, all_trails(case, lets, "once"), keys):
        return False
    for one, other in slow_alike(case, keys):
        for change in lets:
            ends = (puts[one][change[1]], puts[other][change[1]])
            if change[0] == row[one] and None not in ends and keys[ends[0]] != keys[ends[1]]:
                return False
    return True


def slow_answers(case, lets, keys):
    """Return what is answered by keys, and the keys behind."""
    (_, row), puts, stays = case
    answers, renewals = set(), set()
    for thing, key in enumerate(keys):
        for before, worth in lets:
            end = puts[thing][worth]
            if before == row[thing]:
                answers.add((before, key, worth, None if end is None else stays[end]))
                if end is not None:
                    renewals.add((before, key, worth, keys[end]))
    return sorted(answers, key=lambda row: row[:3]), sorted(renewals)


class Examples(Asking):
    def test_as_they_stand(self):
        self.assertEqual([least_keys(W, M, "once"), least_keys(W, M, "always"), first_parted(W, M, (0, 0, 0, 1), "always"),
                          keys_hold(W, M, (0, 0, 0, 1), "once")],
                         [(0, 0, 0, 1), (0, 1, 0, 1), (0, 1, ((0, 1), (1, 1))), True])
        self.assertEqual([keys_go_on(W, M, (0, 0, 0, 1)), answers_by(W, M, (0, 0, 0, 1)), renewals_by(W, M[:1], (0, 1, 5, 7))],
                         [False, [(0, 0, 1, 1), (1, 0, 0, 0), (1, 0, 1, 1), (1, 1, 0, 0), (1, 1, 1, None)],
                          [(0, 0, 1, 5), (0, 1, 1, 7)]])


class Keys(Asking):
    def test_against_all_trails(self):
        told = set()
        for case, lets in SAMPLES:
            for often in ("once", "always"):
                trails = all_trails(case, lets, often)
                for keys in all_keys(case):
                    parted = [(one, other, slow_trail(trails, one, other)) for one, other in slow_alike(case, keys)]
                    parted = [found for found in parted if found[2] is not None]
                    self.says(not parted, keys_hold(case, lets, keys, often))
                    self.assertEqual(first_parted(case, lets, keys, often), parted[0] if parted else None)
                    told.add((often, not parted))
        self.assertEqual(len(told), 4)

    def test_least_keys(self):
        for case, lets in SAMPLES:
            for often in ("once", "always"):
                trails = all_trails(case, lets, often)
                least = least_keys(case, lets, often)
                self.assertEqual(least, slow_least_keys(case, trails))
                # The least keys hold, and no keys that hold have fewer in any worth.
                self.says(True, keys_hold(case, lets, least, often))
                for keys in all_keys(case):
                    if slow_hold(case, trails, keys):
                        for worth in range(case[0][0]):
                            counts = [len({row[thing] for thing, own in enumerate(case[0][1]) if own == worth})
                                      for row in (least, keys)]
                            self.assertLessEqual(counts[0], counts[1])

    def test_keys_that_go_on(self):
        told = set()
        for case, lets in SAMPLES:
            for keys in all_keys(case):
                expected = slow_go_on(case, lets, keys)
                self.says(expected, keys_go_on(case, lets, keys))
                # Keys that go on hold always.
                always = keys_hold(case, lets, keys, "always")
                self.assertTrue(always or not expected)
                told.add((expected, always))
            self.says(True, keys_go_on(case, lets, least_keys(case, lets, "always")))
        self.assertEqual(told, {(True, True), (False, True), (False, False)})

    def test_answers_and_renewals(self):
        for case, lets in SAMPLES:
            trails = all_trails(case, lets, "once")
            for keys in all_keys(case):
                answers, renewals = slow_answers(case, lets, keys)
                self.assertEqual(answers_by(case, lets, keys), answers if slow_hold(case, trails, keys) else None)
                self.assertEqual(renewals_by(case, lets, keys), renewals if slow_go_on(case, lets, keys) else None)

    def test_no_things_and_no_lets(self):
        nothing = ((2, ()), (), ())
        for often in ("once", "always"):
            self.assertEqual([keys_hold(nothing, M, (), often), first_parted(nothing, M, (), often), least_keys(nothing, M, often),
                              keys_go_on(nothing, M, ()), answers_by(nothing, M, ()), renewals_by(nothing, M, ())],
                             [True, None, (), True, [], []])
            self.assertEqual([keys_hold(W, (), (0, 0, 0, 0), often), least_keys(W, (), often)], [True, (0, 0, 0, 0)])
        self.assertEqual([keys_go_on(W, (), (0, 0, 0, 0)), answers_by(W, (), (0, 1, 2, 3)), renewals_by(W, (), (0, 1, 2, 3))],
                         [True, [], []])

    def test_all_refused(self):
        refused = (W[0], ((None, None),) * 4, W[2])
        self.assertEqual([least_keys(refused, M, "always"), answers_by(refused, M, (0, 5, 0, 0)), renewals_by(refused, M, (1,) * 4)],
                         [(0, 0, 0, 0), [(0, 0, 1, None), (0, 5, 1, None), (1, 0, 0, None), (1, 0, 1, None)], []])

    def test_greatest(self):
        lets = ((0, 0),)
        self.assertEqual([least_keys(CHAIN, lets, "once"), least_keys(CHAIN, lets, "always")],
                         [(0,) * 10 + (1, 1), tuple(range(11)) + (10,)])
        self.assertEqual(first_parted(CHAIN, lets, (0, 0) + (1,) * 10, "always"), (0, 1, ((0, 0),) * 10))
        self.assertEqual(first_parted(CHAIN, lets, (0, 0) + (1,) * 10, "once"), (2, 10, ((0, 0),)))
        self.assertEqual(least_keys(GREAT, ALL_LETS, "always"), (0,) * 6 + (1,) * 6)
        keys = least_keys(GREAT, ALL_LETS, "always")
        self.assertEqual([answers_by(GREAT, ALL_LETS, keys), renewals_by(GREAT, ALL_LETS, keys)],
                         list(slow_answers(GREAT, ALL_LETS, keys)))
        self.assertEqual(len(answers_by(GREAT, ALL_LETS, keys)), 72)
        apart = ((1, (0,) * 12), tuple((thing,) for thing in range(12)), tuple(range(12)))
        self.assertEqual(least_keys(apart, lets, "always"), tuple(range(12)))


class Errors(Asking):
    def test_order(self):
        calls = [(keys_hold, True), (first_parted, True), (keys_go_on, False), (answers_by, False), (renewals_by, False)]
        for function, often in calls:
            more = (None,) if often else ()
            for value in (None, ((7, ()), (), ()), W[:2], list(W)):
                self.refused(InvalidCase, function, value, None, None, *more)
            for value in BAD_LETS:
                self.refused(InvalidLets, function, W, value, None, *more)
            for value in BAD_KEYS + odd_values() + list(spoiled((0, 1, 0, 1))):
                self.refused(InvalidKeys, function, W, M, value, *more)
        for value in [True, None, "", "Once", "twice", ("once",), 1, []] + odd_values():
            self.refused(InvalidOften, keys_hold, W, M, (0, 0, 0, 0), value)
            self.refused(InvalidOften, first_parted, W, M, (0, 0, 0, 0), value)
            self.refused(InvalidOften, least_keys, W, M, value)
        for value in (None, ((7, ()), (), ()), W[:2], list(W)):
            self.refused(InvalidCase, least_keys, value, None, None)
        for value in BAD_LETS:
            self.refused(InvalidLets, least_keys, W, value, None)


if __name__ == "__main__":
    unittest.main()
