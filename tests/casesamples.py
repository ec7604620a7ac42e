"""Many cases of few things, and a slow reading of points 23 to 27 beside the program."""

from itertools import combinations

from tests.chance import Chance

W, M = ((2, (0, 0, 1, 1)), ((0, 2), (1, 3), (0, 2), (1, None)), (0, 0, 1, 1)), ((0, 1), (1, 0), (1, 1))

# A case in which worths are shown of things so that long trails are needed, and the greatest numbers of things and worths.
CHAIN = ((1, (0,) * 12), tuple((min(thing + 1, 11),) for thing in range(12)), (0,) * 11 + (11,))
GREAT = ((6, tuple(thing % 6 for thing in range(12))),
         tuple(tuple((thing + worth) // 6 % 2 * 6 + worth for worth in range(6)) for thing in range(12)),
         tuple(range(12)))
ALL_LETS = tuple((one, other) for one in range(6) for other in range(6))


def lets_of(case):
    """Return all changes of the worths of a case."""
    return [(one, other) for one in range(case[0][0]) for other in range(case[0][0])]


def samples(many, most_things=5, most_lets=9):
    """Return many pairs of a case and of lets of it."""
    found = [(((worths, ()), (), ()), tuple(lets_of(((worths, ()), (), ()))[:2])) for worths in (0, 1, 2)]
    for seed in range(many):
        chance = Chance(seed)
        worths, things = 1 + chance.below(3), 1 + chance.below(most_things)
        row = chance.numbers(things, worths)
        refused = 3 + chance.below(8)
        puts = []
        for _ in row:
            ends = [[thing for thing in range(things) if row[thing] == worth] for worth in range(worths)]
            puts.append(tuple(chance.one_of(one) if one and chance.below(refused) else None for one in ends))
        case = ((worths, row), tuple(puts), chance.numbers(things, 1 + chance.below(3)))
        found.append((case, chance.some_of(lets_of(case), 1 + chance.below(2))[:most_lets]))
    return found


def trails_of(case, lets, thing, longest):
    """Return the dict of all trails of a thing of at most so many changes, with their answers."""
    (_, row), puts, stays = case
    found = {}
    come = {(): thing}
    for _ in range(longest):
        deeper = {}
        for trail, at in come.items():
            for change in lets:
                if change[0] == row[at]:
                    end = puts[at][change[1]]
                    found[trail + (change,)] = None if end is None else stays[end]
                    if end is not None:
                        deeper[trail + (change,)] = end
        come = deeper
    return found


def all_trails(case, lets, often):
    """Return the list, for each thing, of the dict of its trails, as long as any that is needed to part some."""
    longest = 1 if often == "once" else len(case[0][1]) + 1
    return [trails_of(case, lets, thing, longest) for thing in range(len(case[0][1]))]


def slow_trail(trails, one, other):
    """Return the least trail that parts two things, or None."""
    parting = [trail for trail, answer in trails[one].items()
               if trail in trails[other] and trails[other][trail] != answer]
    return min(parting, key=lambda trail: (len(trail), trail)) if parting else None


def slow_alike(case, marks):
    """Return the pairs of things with the same worth and mark, in order."""
    row = case[0][1]
    return [(one, other) for one, other in combinations(range(len(row)), 2)
            if row[one] == row[other] and marks[one] == marks[other]]


def slow_hold(case, trails, marks):
    """Return whether no trail parts two things with the same worth and mark."""
    return all(slow_trail(trails, one, other) is None for one, other in slow_alike(case, marks))


def all_keys(case, limit=3):
    """Return many keys of the things of a case: the first ones all, of more things some."""
    things = len(case[0][1])
    keys = [()]
    for _ in range(things):
        keys = [row + (key,) for row in keys for key in range(limit)]
    return keys if len(keys) <= 40 else keys[::len(keys) // 40]
