import unittest
from itertools import combinations

from puttingback.errors import InvalidHub, InvalidNumber
from puttingback.huborders import hub_fences, orders_agree, parting_changes
from tests.asking import Asking
from tests.hubsamples import (APART, GREAT, H, HIGH, LEAST, LOW, NEVER, U, V, all_end_alike, changes, hubs,
                              meeting, nearly_apart, rows_of, slow_do, slow_end, things)
from tests.test_hubs import BAD_HUBS
from tests.values import odd_values


def slow_parting(hub, at, longest):
    """Return the first lead of at most so many changes, with two changes that do not end alike behind it, or None."""
    for lead in rows_of(changes(hub), longest):
        thing = slow_do(hub, at, lead)[0]
        for one in changes(hub):
            for other in changes(hub):
                if one < other and one[0] != other[0]:
                    if slow_end(hub, thing, (one, other)) != slow_end(hub, thing, (other, one)):
                        return (lead, one, other)
    return None


def slow_fences(hub, longest):
    """Return all fences of as few changes as there can be, looking at rows of at most so many."""
    for many in range(len(changes(hub)) + 1):
        found = [fence for fence in combinations(changes(hub), many)
                 if all_end_alike(hub, things(hub), [change for change in changes(hub) if change not in fence], longest)]
        if found:
            return found
    return None


class Examples(Asking):
    def test_as_they_stand(self):
        self.assertEqual([parting_changes(H, 0), orders_agree((U, U[:1] + (((0, 0),) * 4,)), 0), hub_fences(H)],
                         [((), (0, 1), (1, 0)), False, [((0, 0), (0, 1)), ((1, 0), (1, 1))]])


class Orders(Asking):
    def test_against_all_rows(self):
        lengths = {}
        for hub in hubs(150) + nearly_apart(60) + meeting(60):
            for at in things(hub):
                expected = slow_parting(hub, at, len(things(hub)) - 1)
                self.assertEqual(parting_changes(hub, at), expected)
                # Orders agree just if all rows that are woven of the same end alike.
                self.says(expected is None, orders_agree(hub, at))
                self.says(all_end_alike(hub, [at], changes(hub), 4 if len(changes(hub)) < 5 else 3),
                          expected is None or len(expected[0]) > 2 or len(expected[0]) > 1 and len(changes(hub)) > 4)
                length = None if expected is None else len(expected[0])
                lengths[length] = lengths.get(length, 0) + 1
        self.assertGreater(min(lengths[length] for length in (None, 0, 1, 2)), 4)

    def test_long_leads(self):
        # One view goes on through a ring of 12 things; only at the last of these another one meets it.
        for many in range(1, 13):
            onward = ((0,) * many, tuple(((at + 1) % many,) for at in range(many)))
            meets = ((0,) * many, tuple((None if at == many - 1 else at,) for at in range(many)))
            for at in range(many):
                length = max(0, many - 2 - at)
                if many > 1:
                    self.assertEqual(parting_changes((onward, meets), at), (((0, 0),) * length, (0, 0), (1, 0)))
                    self.says(False, orders_agree((meets, onward), at))
                else:
                    self.assertIsNone(parting_changes((onward, meets), at))
        # From the last thing, from which none leads on, no other one is seen.
        hub = (((0, 0, 0), ((1,), (2,), (2,))), ((0, 0, 0), ((None,), (1,), (2,))))
        self.assertEqual([orders_agree(hub, at) for at in range(3)], [False, True, True])

    def test_views_that_never_meet(self):
        for hub in (APART, (HIGH, LOW), (HIGH, LOW, NEVER), LEAST, (U,), (V,)):
            for at in things(hub):
                self.says(True, orders_agree(hub, at))
                self.assertIsNone(parting_changes(hub, at))
            self.assertEqual(hub_fences(hub), [()])


class Fences(Asking):
    def test_against_all_rows(self):
        sizes = {}
        for hub in hubs(200):
            if len(changes(hub)) <= 4:
                fences = hub_fences(hub)
                self.assertEqual(fences, slow_fences(hub, 3))
                sizes[len(fences[0])] = sizes.get(len(fences[0]), 0) + 1
                sizes["many"] = sizes.get("many", 0) + (len(fences) > 1)
        self.assertGreater(min(sizes[size] for size in (0, 1, 2, "many")), 8)

    def test_three_views(self):
        for hub in hubs(40, 3, 2, 2)[7:] + [(U, V, LOW), (V, HIGH, LOW)]:
            self.assertEqual(hub_fences(hub), slow_fences(hub, 2))

    def test_greatest(self):
        parting = set()
        for one in changes(GREAT):
            for other in changes(GREAT):
                if one[0] < other[0] and any(slow_end(GREAT, at, (one, other)) != slow_end(GREAT, at, (other, one)) for at in range(12)):
                    parting.add((one, other))
        fences = hub_fences(GREAT)
        self.assertEqual(fences, sorted(fences))
        expected = next(found for found in ([lot for lot in combinations(changes(GREAT), many) if all(
            one in lot or other in lot for one, other in parting)] for many in range(17)) if found)
        self.assertEqual(fences, expected)
        # Each two changes of unlike views part: all but those of one view must be left out.
        puts = tuple(tuple((thing * worth + worth) % 12 for worth in range(4)) for thing in range(12))
        alike = ((0,) * 12, tuple(tuple((row[worth] + 1) % 12 if thing else worth for worth in range(4)) for thing, row in enumerate(puts)))
        for hub in ((alike,) * 4,):
            for one in changes(hub):
                for other in changes(hub):
                    if one[0] < other[0] and one[1] != other[1]:
                        self.assertTrue(any(slow_end(hub, at, (one, other)) != slow_end(hub, at, (other, one)) for at in range(12)))
            self.assertEqual({len(fence) for fence in hub_fences(hub)}, {12})
        self.assertIsNotNone(parting_changes(GREAT, 11))


class Errors(Asking):
    def test_order(self):
        for value in BAD_HUBS + odd_values():
            self.refused(InvalidHub, orders_agree, value, None)
            self.refused(InvalidHub, parting_changes, value, None)
            self.refused(InvalidHub, parting_changes, value, 0)
            self.refused(InvalidHub, hub_fences, value)
        for value in [4, -1, True, False, "0", (0,)] + odd_values():
            self.refused(InvalidNumber, orders_agree, H, value)
            self.refused(InvalidNumber, parting_changes, H, value)


if __name__ == "__main__":
    unittest.main()
