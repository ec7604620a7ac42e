import unittest
from itertools import product

from puttingback.claims import claim_paper, is_claim, stranded
from puttingback.errors import InvalidClaim, InvalidKind, InvalidTerms, InvalidThing
from puttingback.roads import is_closed_lot
from tests.asking import Asking
from tests.chance import Chance
from tests.lifesamples import (EIGHTS, GREAT, K, L, ROUND, S, T, leaving, rows_of_terms, slow_graph, slow_reach, slow_roads,
                               stepping)
from tests.samples import at_path, slow_leaves, slow_things
from tests.test_roads import BAD_TERMS, MORE, MOST, SQUARE
from tests.values import disturbed, odd_values, spoiled

C = (((0,), (0,)),)
BAD_CLAIMS = [(), list(C), (((0,), [0]),), (([0], (0,)),), ([(0,), (0,)],), (((0,), (0,), 0),), (((0,),),), (((2,), (0,)),), (((0, 0), (0,)),),
              ((0, (0,)),), (((0,), (2,)),), (((0,), (-1,)),), (((0,), (1, 0)),), (((0,), (0, 0)),), (((0,), (True,)),), (((False,), (0,)),),
              (((0,), 0),), (((1,), (0,)), ((0,), (0,))), (((0,), (0,)), ((0,), (1,))), (((0,), (0,)),) * 7, (((), (0,)),), (((0,), None),), None, 0]
STEPS = [(many, (stepping(many, ring),)) for many in (2, 5, 8) for ring in (False, True)]
STEPS += [(ROUND, leaving(at)) for at in range(5)]
SMALL = [(kind, terms) for kind, terms in rows_of_terms(200) if len(slow_things(kind)) <= 12] + STEPS


def holds(claim, thing):
    """Return whether a claim holds at a thing."""
    return all(at_path(thing, leaf) in numbers for leaf, numbers in claim)


def claims_of(kind, seed):
    """Return some claims over a kind."""
    chance = Chance(seed)
    leaves = slow_leaves(kind)
    limits = {leaf: len({at_path(thing, leaf) for thing in slow_things(kind)}) for leaf in leaves}
    found = []
    for _ in range(4):
        few = [leaf for leaf in leaves if chance.below(2)][:6] or leaves[:1]
        found.append(tuple((leaf, chance.some_of(range(limits[leaf]), 4 if chance.below(3) else 2)) for leaf in few))
        found.append(tuple((leaf, tuple(number for number in range(limits[leaf]) if chance.below(5))) for leaf in few))
    return found


def slow_is_claim(kind, value):
    """Return whether any value is a claim, read word by word."""
    def is_row(part, least, most):
        return type(part) is tuple and least <= len(part) <= most

    def is_numbers(part):
        return type(part) is tuple and all(type(number) is int for number in part)

    if not is_row(value, 1, 6) or not all(is_row(pair, 2, 2) and is_numbers(pair[0]) and is_numbers(pair[1]) for pair in value):
        return False
    leaves = slow_leaves(kind)
    if not all(leaf in leaves for leaf, _ in value) or sorted({leaf for leaf, _ in value}) != [leaf for leaf, _ in value]:
        return False
    for leaf, numbers in value:
        limit = kind
        for index in leaf:
            limit = limit[index][1]
        if list(numbers) != sorted(set(numbers)) or not all(0 <= number < limit for number in numbers):
            return False
    return True


class Examples(Asking):
    def test_as_they_stand(self):
        self.assertEqual([claim_paper(K, (("part", "b"),), (0, 0), (((0,), (0,)),)), claim_paper(K, (S,), (0, 0), (((0,), (0,)),))],
                         [("lot", (0, 1, 2)), ("road", ((0, 2),))])
        self.assertEqual([stranded(3, (("table", (0, 0, 1), 2),), 1), stranded(K, (S,), (0, 0))], [(((0, 1),), (0, 2)), None])


class IsClaim(Asking):
    def test_claims(self):
        for kind, _ in SMALL:
            for claim in claims_of(kind, 3):
                self.says(True, is_claim(kind, claim))
        six = tuple((word, 2) for word in "abcdef")
        for kind, claim in ((K, (((0,), ()),)), (K, (((0,), (0, 1)), ((1,), (0, 1, 2)))), (3, (((), (0, 2)),)), (12, (((), tuple(range(12))),)),
                            (six, tuple(((at,), (1,)) for at in range(6))), (0, (((), ()),)), ((("a", 0), ("b", 5)), (((1,), (4,)),))):
            self.says(True, is_claim(kind, claim))
        self.says(False, is_claim(0, (((), (0,)),)))
        seven = (("p", six), ("q", 2))
        self.says(False, is_claim(seven, tuple(((0, at), (1,)) for at in range(6)) + (((1,), (1,)),)))
        self.says(True, is_claim(seven, tuple(((0, at), (1,)) for at in range(5)) + (((1,), (1,)),)))

    def test_others(self):
        for value in BAD_CLAIMS + odd_values() + list(spoiled((((0,), (0, 1)), ((1,), (1,))))):
            self.says(False, is_claim(K, value))

    def test_disturbed(self):
        for kind, claim in ((K, (((0,), (0, 1)), ((1,), (1,)))), (L, (((0, 1), (2,)), ((1,), ()))), (2, (((), (1,)),))):
            for value in disturbed(claim):
                self.says(slow_is_claim(kind, value), is_claim(kind, value))


class Papers(Asking):
    def test_against_all_things(self):
        told = {"lot": 0, 0: 0, 1: 0, 2: 0, 3: 0}
        for seed, (kind, terms) in enumerate(SMALL):
            graph, things = slow_graph(kind, terms), slow_things(kind)
            for thing, claim in product(things[:3], claims_of(kind, seed)):
                come = slow_reach(graph, thing)
                word, paper = claim_paper(kind, terms, thing, claim)
                if all(holds(claim, one) for one in come):
                    # The claim holds wherever roads come just if a closed lot has the thing, and it holds at all of it.
                    self.assertEqual((word, paper), ("lot", tuple(sorted(things.index(one) for one in come))))
                    self.says(True, is_closed_lot(kind, terms, paper))
                    told["lot"] += 1
                else:
                    self.assertEqual(word, "road")
                    told[min(3, len(paper))] += 1
                    self.check_road(graph, thing, claim, paper)
        self.assertGreater(min(told.values()), 5)

    def check_road(self, graph, thing, claim, paper):
        """Hold that a road is the first one from a thing to one at which a claim does not hold."""
        if len(paper) <= 2:
            roads = slow_roads(graph, thing, len(paper))
            self.assertEqual(next(road for road, end in roads if not holds(claim, end)), paper)
        else:
            self.assertTrue(all(holds(claim, end) for _, end in slow_roads(graph, thing, 2)))
            for deed in paper[:-1]:
                thing = dict(graph[thing])[deed]
                self.assertTrue(holds(claim, thing))
            self.assertFalse(holds(claim, dict(graph[thing])[paper[-1]]))

    def test_long_roads(self):
        for number in range(8):
            claim = (((), tuple(other for other in range(8) if other != number)),)
            word, road = claim_paper(8, (stepping(8, True),), 3, claim)
            self.assertEqual((word, len(road)), ("road", (number - 3) % 8))
            word, paper = claim_paper(8, (stepping(8, False),), 3, claim)
            self.assertEqual((word, len(paper)), ("lot", 5) if number < 3 else ("road", number - 3))

    def test_nothing_holds_and_all_does(self):
        for kind, terms in SMALL[:40]:
            leaf = slow_leaves(kind)[0]
            thing = slow_things(kind)[0]
            self.assertEqual(claim_paper(kind, terms, thing, ((leaf, ()),)), ("road", ()))


class Stranded(Asking):
    def test_against_all_things(self):
        told = {None: 0, 1: 0, 2: 0}
        for kind, terms in SMALL:
            graph, things = slow_graph(kind, terms), slow_things(kind)
            reach = {thing: slow_reach(graph, thing) for thing in things}
            for thing in things[:6]:
                lost = [one for one in reach[thing] if thing not in reach[one]]
                found = stranded(kind, terms, thing)
                self.assertIs(found is None, not lost)
                if found is not None:
                    road, lot = found
                    told[min(2, len(road))] += 1
                    if len(road) <= 2:
                        first = next((first, end) for first, end in slow_roads(graph, thing, len(road)) if end in lost)
                        self.assertEqual(road, first[0])
                    end = thing
                    for deed in road:
                        end = dict(graph[end])[deed]
                    self.assertIn(end, lost)
                    self.assertEqual(lot, tuple(sorted(things.index(one) for one in reach[end])))
                    self.assertNotIn(things.index(thing), lot)
                    self.says(True, is_closed_lot(kind, terms, lot))
                else:
                    told[None] += 1
        self.assertGreater(min(told.values()), 2, told)

    def test_far_from_where_none_comes_back(self):
        for at in range(5):
            road, lot = stranded(ROUND, leaving(at), (2, 0))
            self.assertEqual((road[-1], len(road), lot), ((1, 1), (at - 2) % 5 + 1, (1, 3, 5, 7, 9)))
            self.assertEqual(len(slow_reach(slow_graph(ROUND, leaving(at)), (2, 0))), 10)
            self.assertIsNone(stranded(ROUND, leaving(at), (2, 1)))

    def test_one_thing(self):
        self.assertIsNone(stranded(1, (("whole",), ("fixed", 0, 3)), 0))
        self.assertEqual(claim_paper(1, (("whole",),), 0, (((), (0,)),)), ("lot", (0,)))


class Greatest(Asking):
    def test_pairs_of_a_thing_and_of_a_deed(self):
        for kind, terms in MOST:
            things = slow_things(kind)
            leaf = slow_leaves(kind)[-1]
            word, paper = claim_paper(kind, terms, things[5], ((leaf, tuple(range(8))),))
            self.assertEqual((word, is_closed_lot(kind, terms, paper)), ("lot", True))
            self.assertIsNone(stranded(kind, terms, things[5]))
        self.assertEqual(claim_paper(SQUARE, (("whole",),), (0, 0), (((1,), tuple(range(7))),)), ("road", ((0, (0, 7)),)))
        self.assertEqual(claim_paper(EIGHTS, (GREAT,), (0, 0, 0), (((0,), tuple(range(7))),))[0], "road")
        for kind, terms in MORE:
            thing = slow_things(kind)[0]
            leaf = slow_leaves(kind)[0]
            self.too_many(4096, claim_paper, kind, terms, thing, ((leaf, ()),))
            self.too_many(4096, stranded, kind, terms, thing)
            # It is told at last.
            self.refused(InvalidClaim, claim_paper, kind, terms, thing, ())
            self.refused(InvalidThing, stranded, kind, terms, 0)
            self.says(True, is_claim(kind, ((leaf, ()),)))


class Errors(Asking):
    def test_order(self):
        for value in [13, -1, True, (), [("a", 2)], (("a", 2), ("a", 2)), None]:
            self.refused(InvalidKind, is_claim, value, C)
            self.refused(InvalidKind, claim_paper, value, None, None, None)
            self.refused(InvalidKind, stranded, value, None, None)
        for value in BAD_TERMS + odd_values():
            self.refused(InvalidTerms, claim_paper, K, value, None, None)
            self.refused(InvalidTerms, claim_paper, K, value, (0, 0), C)
            self.refused(InvalidTerms, stranded, K, value, None)
            self.refused(InvalidTerms, stranded, K, value, (0, 0))
        for value in [(0, 3), (2, 0), [0, 0], 0, None, (True, 0)] + [value for value in odd_values() if value != (0, 0)]:
            self.refused(InvalidThing, claim_paper, K, (S,), value, None)
            self.refused(InvalidThing, claim_paper, K, (S,), value, C)
            self.refused(InvalidThing, stranded, K, (S,), value)
        for value in BAD_CLAIMS + odd_values():
            self.refused(InvalidClaim, claim_paper, K, (S,), (0, 0), value)
        self.assertEqual(claim_paper(L, (T,), ((0, 0), 0), (((1,), (0,)),))[0], "lot")


if __name__ == "__main__":
    unittest.main()
