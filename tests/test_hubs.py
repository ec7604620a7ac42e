import unittest
from itertools import product

from puttingback.errors import InvalidHub, InvalidKind, InvalidLot, InvalidNumber, InvalidRow, InvalidTerm
from puttingback.hubs import are_woven, done_at, end_alike, heard_by, hub_of, is_hub
from puttingback.tables import puts_of, showing_of
from tests.asking import Asking
from tests.chance import Chance
from tests.hubsamples import (APART, GREAT, H, HIGH, LEAST, LOW, U, V, changes, hubs, lots, rows_of, slow_do, slow_end,
                              slow_hears, things, weaving)
from tests.samples import A_B, KINDS, good_terms, slow_kind, slow_put, slow_shown, slow_things
from tests.values import disturbed, odd_values, spoiled

K, L = (("a", 2), ("b", 3)), (("k", (("a", 2), ("b", 3))), ("c", 2))
S = ("sum", ("then", ("part", "a"), ("table", (0, 2), 3)), ("part", "b"))
BAD_HUBS = [(), H * 3, (U,) * 5, list(H), (list(U),), (U, list(V)), (U[:1],), (U + (0,),), U, (((), ()),), (((), ()),) * 2,
            (U, ((0, 0, 1), U[1][:3])), (U, (U[0], U[1][:3])), (U, (U[0][:3], U[1])), (((0,) * 13, ((0,),) * 13),),
            (((0,), ((0,) * 5,)),), (((0,), ((),)),), (((1,), ((0,),)),), (((-1,), ((0,),)),), (((0,), ((1,),)),),
            (((0,), ((-1,),)),), (((0, 0), ((0,), (0, 0))),), (((0, 1), ((0,), (1,))),), (((0,), (0,)),), (((0,), None),),
            ((None, ((0,),)),), (((None,), ((0,),)),), (((True,), ((0, 0),)),), (((0,), ((False,),)),), None, 0]


def slow_is_hub(value):
    """Return whether any value is a hub, read word by word."""
    def is_row(part, least, most):
        return type(part) is tuple and least <= len(part) <= most

    if not is_row(value, 1, 4) or not all(is_row(view, 2, 2) and is_row(view[0], 1, 12) for view in value):
        return False
    many = len(value[0][0])
    for shows, puts in value:
        if len(shows) != many or not is_row(puts, many, many) or not all(is_row(row, 1, 4) for row in puts):
            return False
        worths = len(puts[0])
        if any(len(row) != worths for row in puts) or not all(type(worth) is int and 0 <= worth < worths for worth in shows):
            return False
        if not all(end is None or type(end) is int and 0 <= end < many for row in puts for end in row):
            return False
    return True


class Examples(Asking):
    def test_as_they_stand(self):
        self.assertEqual([done_at(H, 0, ((1, 1), (1, 1), (0, 1))), heard_by(H, (0,), 0, ((1, 1), (1, 1), (0, 1)))],
                         [(3, (True, False, True)), ((True,), (1,))])
        self.assertEqual([are_woven(H, ((0, 1), (1, 1)), ((1, 1), (0, 1))),
                          end_alike(H, 0, ((0, 1), (1, 0)), ((1, 0), (0, 1)))], [True, False])


class IsHub(Asking):
    def test_hubs(self):
        for hub in hubs(100) + [GREAT, APART]:
            self.says(True, is_hub(hub))
        # Views need not keep any rule, and may have unlike numbers of worths.
        for hub in ((((1, 1), ((0, 0), (None, None))),), (U, (U[0], tuple(row + (None, 0) for row in U[1]))),
                    (((0,) * 12, ((0,),) * 12),), (((3,), ((0, None, 0, 0),)),), (U, V, U, V)):
            self.says(True, is_hub(hub))

    def test_others(self):
        for value in BAD_HUBS + odd_values() + list(spoiled(H)) + list(spoiled(LEAST)):
            self.says(False, is_hub(value))

    def test_disturbed(self):
        for hub in (H, LEAST, (HIGH,), (((0, 1), ((0, 1, None), (1, 1, 0))),)):
            for value in disturbed(hub):
                self.says(slow_is_hub(value), is_hub(value))


class HubOf(Asking):
    def test_against_slow_tables(self):
        made = 0
        for kind in KINDS:
            terms = good_terms(kind, 30)
            for at, term in enumerate(terms):
                row = tuple((terms[at:] + terms)[:1 + at % 4])
                things_here, worths = slow_things(kind), [slow_things(slow_kind(kind, one)) for one in row]
                if not 1 <= len(things_here) <= 12 or not all(1 <= len(lot) <= 4 for lot in worths):
                    self.refused(InvalidHub, hub_of, kind, row)
                    continue
                expected = []
                for one, lot in zip(row, worths):
                    ends = [[slow_put(kind, one, thing, worth) for worth in lot] for thing in things_here]
                    expected.append((tuple(lot.index(slow_shown(kind, one, thing)) for thing in things_here),
                                     tuple(tuple(things_here.index(end[1]) if end[0] == "thing" else None for end in ends_of)
                                           for ends_of in ends)))
                self.assertEqual(hub_of(kind, row), tuple(expected))
                self.says(True, is_hub(hub_of(kind, row)))
                made += 1
        self.assertGreater(made, 60)
        self.assertEqual(hub_of(K, (S, ("part", "a"))), tuple((showing_of(K, term), puts_of(K, term)) for term in (S, ("part", "a"))))

    def test_limits(self):
        for kind, terms in ((12, (("fixed", 0, 1),)), (L, (("part", "c"),)), (1, (("whole",),)), (4, (("whole",),) * 4)):
            self.says(True, is_hub(hub_of(kind, terms)))
        twelve, more = (("a", 12), ("b", 1)), (("a", 12), ("b", 2))
        self.says(True, is_hub(hub_of(twelve, (("part", "b"),))))
        greatest = tuple((word, 8) for word in "abc")
        for kind, terms in ((0, (("whole",),)), (0, (("fixed", 0, 1),)), (5, (("whole",),)), (more, (("part", "b"),)),
                            (more, (("part", "a"),)), (greatest, (("whole",),)), (greatest, (("fixed", 0, 1),)),
                            (K, (S, ("whole",))), (K, (S, ("fixed", 0, 5))), ((("a", 2), ("b", 0)), (("part", "a"),))):
            self.refused(InvalidHub, hub_of, kind, terms)


class Doing(Asking):
    def test_against_slow_rows(self):
        for hub in hubs(40):
            rows = rows_of(changes(hub), 2)
            for at in things(hub):
                for row in rows:
                    self.assertEqual(done_at(hub, at, row), slow_do(hub, at, row))
                    for lot in lots(hub):
                        self.assertEqual(heard_by(hub, lot, at, row), slow_hears(hub, lot, at, row))

    def test_weaving(self):
        told = {True: 0, False: 0}
        for hub in hubs(25, 3, 3, 2) + [H]:
            rows = rows_of(changes(hub), 2)
            for row, beside in product(rows, rows):
                woven = weaving(hub, row) == weaving(hub, beside)
                self.says(woven, are_woven(hub, row, beside))
                for at in things(hub):
                    if woven:
                        alike = slow_end(hub, at, row) == slow_end(hub, at, beside)
                        self.says(alike, end_alike(hub, at, row, beside))
                        told[alike] += 1
                    else:
                        self.refused(InvalidRow, end_alike, hub, at, row, beside)
        self.assertGreater(min(told.values()), 50)

    def test_longer_rows(self):
        for seed in range(60):
            chance = Chance(seed)
            hub = chance.one_of((H, GREAT, APART, (U, V, HIGH, LOW)))
            row = tuple(chance.one_of(changes(hub)) for _ in range(60))
            beside = tuple(sorted(row, key=lambda change: change[0]))
            at = chance.below(len(hub[0][0]))
            self.assertEqual(done_at(hub, at, row), slow_do(hub, at, row))
            self.assertEqual(heard_by(hub, (0, 1), at, row), slow_hears(hub, (0, 1), at, row))
            self.says(True, are_woven(hub, row, beside))
            self.says(slow_end(hub, at, row) == slow_end(hub, at, beside), end_alike(hub, at, row, beside))
            if hub == APART:
                self.says(True, end_alike(hub, at, row, beside))
            self.says(False, are_woven(hub, row, beside[1:]))

    def test_answers_of_each_view_count(self):
        # Both orders come to the same thing, but the one view's change is refused in one of them alone.
        hub = (((0, 0), ((1,), (1,))), ((0, 0), ((None,), (1,))))
        self.assertEqual([done_at(hub, 0, ((0, 0), (1, 0))), done_at(hub, 0, ((1, 0), (0, 0)))], [(1, (True, True)), (1, (False, True))])
        self.says(False, end_alike(hub, 0, ((0, 0), (1, 0)), ((1, 0), (0, 0))))
        # Answers that are the same in another order are the same for each view.
        hub = (((0, 0), ((None,), (None,))), ((0, 0), ((0,), (1,))))
        self.says(True, end_alike(hub, 0, ((0, 0), (1, 0)), ((1, 0), (0, 0))))

    def test_no_changes(self):
        self.assertEqual([done_at(H, 3, ()), heard_by(H, (), 3, ()), heard_by(H, (0, 1), 3, ()), are_woven(H, (), ()),
                          end_alike(H, 3, (), ())], [(3, ()), ((), ()), ((), (1, 0)), True, True])
        self.assertEqual(heard_by(H, (), 0, ((0, 1),)), ((), ()))


class Errors(Asking):
    BAD_ROWS = [((0, 1),) * 61, ((2, 0),), ((0, 2),), ((-1, 0),), ((0, -1),), ((0,),), ((0, 0, 0),), ([0, 0],), [(0, 0)],
                (0, 0), ((0, True),), ((False, 0),), ((0, 0), None), None, 0, "", ("00",)]

    def test_hub_first(self):
        for value in BAD_HUBS + odd_values():
            self.refused(InvalidHub, done_at, value, None, None)
            self.refused(InvalidHub, done_at, value, 0, ())
            self.refused(InvalidHub, heard_by, value, None, None, None)
            self.refused(InvalidHub, heard_by, value, (), 0, ())
            self.refused(InvalidHub, are_woven, value, None, None)
            self.refused(InvalidHub, are_woven, value, (), ())
            self.refused(InvalidHub, end_alike, value, None, None, None)
            self.refused(InvalidHub, end_alike, value, 0, (), ())

    def test_things(self):
        for value in [4, -1, True, False, "0", (0,)] + odd_values():
            self.refused(InvalidNumber, done_at, H, value, None)
            self.refused(InvalidNumber, done_at, H, value, ())
            self.refused(InvalidNumber, heard_by, H, (), value, None)
            self.refused(InvalidNumber, heard_by, H, (), value, ())
            self.refused(InvalidNumber, end_alike, H, value, None, None)
            self.refused(InvalidNumber, end_alike, H, value, (), ())

    def test_lots(self):
        for value in [(1, 0), (0, 0), (2,), (-1,), (True,), [0], (0, 1, 2), 0] + [one for one in odd_values()
                                                                                  if one not in ((), (0,))]:
            self.refused(InvalidLot, heard_by, H, value, None, None)
            self.refused(InvalidLot, heard_by, H, value, 0, ())

    def test_rows(self):
        for value in self.BAD_ROWS + [value for value in odd_values() if value != ()]:
            self.refused(InvalidRow, done_at, H, 0, value)
            self.refused(InvalidRow, heard_by, H, (0,), 0, value)
            self.refused(InvalidRow, are_woven, H, value, None)
            self.refused(InvalidRow, are_woven, H, value, ())
            self.refused(InvalidRow, are_woven, H, (), value)
            self.refused(InvalidRow, end_alike, H, 0, value, None)
            self.refused(InvalidRow, end_alike, H, 0, value, ())
            self.refused(InvalidRow, end_alike, H, 0, (), value)
        self.assertEqual(len(done_at(H, 0, ((0, 1),) * 60)[1]), 60)

    def test_terms(self):
        for value in odd_values() + [-1, 13, (("a", 2), ("a", 3))]:
            if value not in ((("a", 2),),):
                self.refused(InvalidKind, hub_of, value, None)
        bad = [(), (S,) * 5, [S], S, (S, ("part", "c")), (("part", "c"), S), (S, None), (S, list(S)), None, 0]
        for value in bad + odd_values():
            self.refused(InvalidTerm, hub_of, A_B, value)
        # What is no term is told ahead of what is no hub.
        self.refused(InvalidTerm, hub_of, 0, (("part", "a"),))
        self.refused(InvalidTerm, hub_of, (("a", 12), ("b", 12)), (("whole",), ("part", "c")))
        self.assertEqual(len(hub_of(A_B, (S,) * 4)), 4)


if __name__ == "__main__":
    unittest.main()
