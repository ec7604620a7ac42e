"""Many hubs, and a slow reading of points 38 to 42 beside the program."""

from itertools import combinations, product

from tests.chance import Chance

U = ((0, 0, 1, 1), ((0, 2), (1, 3), (0, 2), (1, 3)))
V = ((0, 1, 1, 0), ((0, 1), (0, None), (3, 2), (3, 2)))
H = (U, V)

# Views of four things that are pairs of two: of the one, of the other, and one that always refuses.
HIGH = ((0, 0, 1, 1), ((0, 2), (1, 3), (0, 2), (1, 3)))
LOW = ((0, 1, 0, 1), ((0, 1), (0, 1), (2, 3), (2, 3)))
NEVER = ((0, 0, 0, 0), ((None,),) * 4)

# A hub with the most views, worths and things: 12 things in a ring, moved on by unlike numbers.
GREAT = tuple((tuple(thing * step % 4 for thing in range(12)),
               tuple(tuple((thing + step * worth) % 12 if thing % 5 or worth else None for worth in range(4))
                     for thing in range(12))) for step in (1, 2, 3, 5))
# One whose views never meet: each moves one of a row of 2, 2 and 3 integers, and one does nothing.
APART = tuple((tuple(thing // before % many for thing in range(12)),
               tuple(tuple(thing + (worth % many - thing // before % many) * before for worth in range(4))
                     for thing in range(12))) for before, many in ((6, 2), (3, 2), (1, 3)))
APART = APART + (((0,) * 12, tuple((thing, None, thing, None) for thing in range(12))),)
LEAST = (((0,), ((None,),)),)


def hubs(many, most_views=3, most_things=3, most_worths=2, holes=5):
    """Return many hubs."""
    found = [LEAST, (HIGH, LOW), (HIGH, NEVER), (LOW, HIGH, NEVER), H, (V, V), (U,)]
    for seed in range(many):
        chance = Chance(seed)
        things = 1 + chance.below(most_things)
        views = []
        for _ in range(1 + chance.below(most_views)):
            worths = 1 + chance.below(most_worths)
            stays = chance.below(3)
            views.append((chance.numbers(things, worths), tuple(
                tuple(thing if stays and chance.below(2) else chance.below(things) if chance.below(holes) else None
                      for _ in range(worths)) for thing in range(things))))
        found.append(tuple(views))
    return found


def nearly_apart(many):
    """Return many hubs whose views nearly never meet: few puts of others have been changed."""
    onward = ((0, 1, 2, 0), ((1, 0, 0), (1, 2, 1), (2, 2, 3), (3, 3, 3)))
    bases = [(HIGH, LOW), (HIGH, LOW, NEVER), (HIGH, NEVER), (LOW, HIGH, NEVER), (onward, NEVER), (NEVER, onward)]
    found = []
    for seed in range(many):
        chance = Chance(seed)
        views = [[shows, [list(row) for row in puts]] for shows, puts in chance.one_of(bases)]
        for _ in range(1 + chance.below(2)):
            row = chance.one_of(chance.one_of(views)[1])
            row[chance.below(len(row))] = chance.one_of((None, 0, 1, 2, 3))
        found.append(tuple((shows, tuple(tuple(row) for row in puts)) for shows, puts in views))
    return found


def meeting(many):
    """Return many hubs with a view that goes about six things, and with one that refuses at one or two of these alone."""
    found = []
    for seed in range(many):
        chance = Chance(seed)
        onward = tuple(tuple(chance.one_of((at, (at + 1) % 6, chance.below(6))) for _ in range(2)) for at in range(6))
        meets = {5, chance.one_of((4, 5))}
        views = [((0,) * 6, onward), ((0,) * 6, tuple((None if at in meets else at,) for at in range(6)))]
        found.append(tuple(views[::-1] if chance.below(2) else views))
    return found


def watching(many):
    """Return many hubs with a view that goes about five things, and one that leaves nearly all of them as they are.

    Each is shown one of the things unlike the others.
    """
    found = []
    for seed in range(many):
        chance = Chance(seed)
        onward = tuple(tuple(chance.one_of((at, (at + 1) % 5, (at + 1) % 5)) for _ in range(2)) for at in range(5))
        one, other, where = chance.below(5), chance.below(5), chance.below(5)
        stays = tuple((at, chance.one_of((None, (at + 1) % 5)) if at == where else at) for at in range(5))
        views = [(tuple(int(at == one) for at in range(5)), onward), (tuple(int(at == other) for at in range(5)), stays)]
        found.append(tuple(views[::-1] if chance.below(2) else views))
    return found


def things(hub):
    """Return all things of a hub."""
    return range(len(hub[0][0]))


def changes(hub, views=None):
    """Return all changes of some views of a hub, in order."""
    return [(view, worth) for view, (_, puts) in enumerate(hub) if views is None or view in views
            for worth in range(len(puts[0]))]


def lots(hub):
    """Return all lots of the views of a hub."""
    return [lot for many in range(len(hub) + 1) for lot in combinations(range(len(hub)), many)]


def slow_do(hub, at, row):
    """Return the thing to which a row comes, and its answers."""
    answers = ()
    for view, worth in row:
        came = hub[view][1][at][worth]
        answers += (came is not None,)
        at = at if came is None else came
    return at, answers


def slow_hears(hub, lot, at, row):
    """Return what a lot hears of a row."""
    end, answers = slow_do(hub, at, row)
    return (tuple(answer for (view, _), answer in zip(row, answers) if view in lot), tuple(hub[view][0][end] for view in lot))


def weaving(hub, row):
    """Return what is the same of all rows that are woven of the same."""
    return tuple(tuple(change for change in row if change[0] == view) for view in range(len(hub)))


def slow_end(hub, at, row):
    """Return what is the same of all rows that end alike at a thing."""
    end, answers = slow_do(hub, at, row)
    return (end,) + tuple(tuple(answer for (view, _), answer in zip(row, answers) if view == other)
                          for other in range(len(hub)))


def rows_of(letters, longest):
    """Return all rows of at most so many letters, the shorter ones first, and then in Python's order."""
    return [row for length in range(longest + 1) for row in product(letters, repeat=length)]


def all_end_alike(hub, starts, letters, longest):
    """Return whether all rows of some letters, of at most so many, that are woven of the same end alike at some things."""
    ends = {}
    for row in rows_of(letters, longest):
        for at in starts:
            if ends.setdefault((at, weaving(hub, row)), slow_end(hub, at, row)) != slow_end(hub, at, row):
                return False
    return True
