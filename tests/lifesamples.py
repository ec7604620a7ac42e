"""Many lives, and a slow reading of points 46 and 47 beside the program."""

from functools import lru_cache

from tests.chance import Chance
from tests.samples import KINDS, good_terms, slow_kind, slow_put, slow_shown, slow_things

K, L = (("a", 2), ("b", 3)), (("k", (("a", 2), ("b", 3))), ("c", 2))
S = ("sum", ("then", ("part", "a"), ("table", (0, 2), 3)), ("part", "b"))
T = ("test", ("part", "c"), (1,), ("then", ("part", "k"), S), ("fixed", 0, 3))
B = ("part", "b")
V = (K, (S, B), (0, 0), ((0, 2), (1, 1), (0, 2), (0, 1)))

# A term of the greatest size and depth, of as many worths as it has, that is put through both sides of a test.
LEAD = ("part", "a")
for _ in range(6):
    LEAD = ("sum", LEAD, ("fixed", 1, 8))
GREAT = ("test", ("part", "a"), (0, 2, 4, 6), LEAD, LEAD)
EIGHTS = (("a", 8), ("b", 8), ("c", 8))


def rows_of_terms(many, kinds=KINDS):
    """Return many pairs of a kind with things and of a row of 1 to 4 terms over it."""
    found = [(K, (S, B)), (K, (S,)), (L, (T,)), (3, (("table", (0, 0, 1), 2),)), (1, (("whole",),))]
    for seed in range(many):
        chance = Chance(seed)
        kind = chance.one_of([kind for kind in kinds if slow_things(kind)])
        terms = [term for term in known_terms(kind) if len(slow_things(slow_kind(kind, term))) <= 12]
        found.append((kind, tuple(chance.one_of(terms) for _ in range(1 + chance.below(4)))))
    return found


@lru_cache
def known_terms(kind):
    """Return many terms over a kind."""
    return good_terms(kind, 60)


def lives(many, most=6):
    """Return many lives."""
    found = [V, (1, (("whole",),), 0, ()), (K, (S,), (1, 2), ())]
    for seed, (kind, terms) in enumerate(rows_of_terms(many)):
        chance = Chance(seed + 1000)
        worths = [slow_things(slow_kind(kind, term)) for term in terms]
        deeds = []
        for _ in range(chance.below(most + 1)):
            index = chance.below(len(terms))
            if worths[index]:
                deeds.append((index, chance.one_of(worths[index])))
        found.append((kind, terms, chance.one_of(slow_things(kind)), tuple(deeds)))
    return found


def all_deeds(kind, terms):
    """Return all deeds, in order."""
    return [(index, worth) for index, term in enumerate(terms) for worth in slow_things(slow_kind(kind, term))]


def slow_through(life):
    """Return the things of a life, and what its puts come to."""
    kind, terms, thing, deeds = life
    things, ends = [thing], []
    for index, worth in deeds:
        ends.append(slow_put(kind, terms[index], things[-1], worth))
        things.append(ends[-1][1] if ends[-1][0] == "thing" else things[-1])
    return things, ends


def slow_graph(kind, terms):
    """Return the dict, for each thing, of the list of the deeds that are not refused, with what each comes to."""
    graph = {}
    for thing in slow_things(kind):
        ends = [(deed, slow_put(kind, terms[deed[0]], thing, deed[1])) for deed in all_deeds(kind, terms)]
        graph[thing] = [(deed, end[1]) for deed, end in ends if end[0] == "thing"]
    return graph


def slow_reach(graph, thing):
    """Return the list of all things to which roads from a thing come."""
    found = [thing]
    for one in found:
        for _, end in graph[one]:
            if end not in found:
                found.append(end)
    return found


def slow_roads(graph, thing, longest):
    """Return the list of all roads of at most so many deeds, in their order, with what each comes to."""
    found, level = [((), thing)], [((), thing)]
    for _ in range(longest):
        level = [(road + (deed,), end) for road, at in level for deed, end in graph[at]]
        found += level
    return found


def showing(kind, term):
    """Return what a term shows of all things."""
    return [slow_shown(kind, term, thing) for thing in slow_things(kind)]


def stepping(many, ring):
    """Return a term over an integer up to 8, whose one put that changes a thing comes to the next thing.

    The last one is put on to the first one, or not at all. Each thing shows its third, told by its own table of a test.
    """
    tables = []
    for thing in range(many):
        following = thing + 1 if thing + 1 < many else 0 if ring else None
        tables.append(("table", tuple(number_at(following) if other == following else thing % 3 for other in range(many)), 3))
    term = tables[-1]
    for thing in reversed(range(many - 1)):
        term = ("test", ("whole",), (thing,), tables[thing], term)
    return term


def number_at(thing):
    """Return what a thing shows by a term that steps."""
    return thing % 3


def leaving(at):
    """Return the terms of a kind whose things go round by the part a; at one number the part b can be set, and stays."""
    once = ("test", ("part", "b"), (0,), ("test", ("part", "a"), (at,), B, ("fixed", 0, 2)), ("fixed", 1, 2))
    return (("then", ("part", "a"), stepping(5, True)), once)


ROUND = (("a", 5), ("b", 2))
