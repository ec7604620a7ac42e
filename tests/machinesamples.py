"""Many machines, and a slow reading of points 32 to 35 beside the program."""

from itertools import product

from tests.chance import Chance

A = (((1, 0),), ((1, 0),), ((((0, (0,)),), ((0, (0,)),)),))
F = (((1, 0),), ((1, -1),), A[2])
H = (((0,),), ((1, 0),), ((((1, ()),), ((0, ()),)), (((0, (0,)),), ((1, ()),))))

# A machine with the most edits, places, standings and edits of answers, by which nothing fails; one of the least size,
# and one that refuses all.
TURNS = ((1, 2, 3, 0), (1, 0, 3, 2), (3, -1, 1, -1))
GREAT = (TURNS, TURNS, tuple((tuple(((standing * 5 + edit) % 64, (edit % 2,) * 16) for edit in range(3)),
                              tuple(((standing * 3 + edit + 7) % 64, (0, 1) * 8) for edit in range(3))) for standing in range(64)))
LEAST = (((0,),), ((0,),), ((((0, ()),), ((0, ()),)),))
REFUSING = (((-1, -1),), ((-1,),), ((((0, (0,)),), ((0, (0,)),)),))


def machines(many, most_edits=2, most_places=3, most_standings=3, holes=6):
    """Return many machines."""
    found = [A, F, H, LEAST, REFUSING]
    for seed in range(many):
        chance = Chance(seed)
        sides = []
        for _ in range(2):
            places = 1 + chance.below(most_places)
            edits = 1 + chance.below(most_edits)
            sides.append(tuple(tuple(chance.below(places) if chance.below(holes) else -1 for _ in range(places))
                               for _ in range(edits)))
        found.append((sides[0], sides[1], standings(chance, sides, 1 + chance.below(most_standings))))
    return found


def standings(chance, sides, many):
    """Return so many standings for two sides."""
    found = []
    for _ in range(many):
        rows = []
        for own, other in ((0, 1), (1, 0)):
            rows.append(tuple((chance.below(many), chance.numbers(chance.below(3), len(sides[other]))) for _ in sides[own]))
        found.append(tuple(rows))
    return tuple(found)


def letters(machine):
    """Return all letters of a machine, in order."""
    return [(0, edit) for edit in range(len(machine[0]))] + [(1, edit) for edit in range(len(machine[1]))]


def slow_step(machine, triple, letter):
    """Return what comes of a letter at a triple: a triple, "refused" or "failed"."""
    places = [triple[0], triple[2]]
    side, edit = letter
    places[side] = machine[side][edit][places[side]]
    if places[side] == -1:
        return "refused"
    standing, answer = machine[2][triple[1]][side][edit]
    for answered in answer:
        places[1 - side] = machine[1 - side][answered][places[1 - side]]
        if places[1 - side] == -1:
            return "failed"
    return (places[0], standing, places[1])


def slow_come_by(machine, row):
    """Return to what a row of letters comes."""
    triple = (0, 0, 0)
    for index, letter in enumerate(row):
        triple = slow_step(machine, triple, letter)
        if isinstance(triple, str):
            return (triple, index)
    return ("at", triple)


def rows_of(machine, longest):
    """Return all rows of at most so many letters of a machine, the least ones first."""
    return [row for length in range(longest + 1) for row in product(letters(machine), repeat=length)]


def slow_triples(machine):
    """Return the list of all triples to which rows come, and whether some row fails."""
    found, fails = [(0, 0, 0)], False
    for triple in found:
        for letter in letters(machine):
            came = slow_step(machine, triple, letter)
            fails = fails or came == "failed"
            if not isinstance(came, str) and came not in found:
                found.append(came)
    return found, fails


def serving(found):
    """Return those machines of some that serve."""
    return [machine for machine in found if not slow_triples(machine)[1]]


def counting(mark, answer, failing):
    """Return a machine that goes through 756 triples by the letter (0, 0) alone, in a ring.

    Behind n of these letters it comes to (n % 4, n % 63, n // 63 % 3). The letter (1, 0) is let where the right place is
    that of the mark, a triple, and is answered at the mark's standing. By the edit (0, 1) the left place of the mark is
    refused, and by (0, 2), too, if failing; otherwise this moves it on; both do nothing elsewhere. All letters but (0, 0)
    lead to a standing from which none leads.
    """
    left, standing, right = mark
    others = [place if place != left else -1 for place in range(4)]
    moving = [place if place != left else -1 if failing else (left + 1) % 4 for place in range(4)]
    holding = tuple(place if place == right else -1 for place in range(3))
    out = (63, ())
    rows = []
    for at in range(64):
        on = out if at == 63 else ((at + 1) % 63, (1,) if at == 62 else ())
        rows.append(((on, out, out), ((63, answer if at == standing else ()), out)))
    return ((1, 2, 3, 0), tuple(others), tuple(moving)), (holding, (1, 2, 0)), tuple(rows)


def mark_at(many):
    """Return the triple of a machine that counts behind so many letters."""
    return (many % 4, many % 63, many // 63 % 3)


def wandering(many, left):
    """Return a machine that needs 13 letters to come from each of so many standings to the next one.

    Only at the last of these, and at one left place, where the right one is 1, the letter (0, 2) moves this: so two
    triples with the same places part only by rows that lead one of them there. All that would lead faster from one place
    to another one leads to one standing more, from which none leads.
    """
    holding = tuple(place if place == left else -1 for place in range(4))
    sides = ((1, 2, 3, -1), (-1, -1, -1, 0), holding), ((-1, -1, -1, 0), (1, 2, 3, 3), (0, 2, 2, 3))
    rows = []
    for at in range(many + 1):
        on = min(at + 1, many - 1) if at < many else many
        rows.append((((at, ()), (at, (1,)), (many, (2,) if at == many - 1 else ())), ((on, ()), (many, ()), (many, ()))))
    return sides + (tuple(rows),)


def slow_parting(machine, triples):
    """Return the set of all pairs of some triples that part."""
    parting = {(one, other) for one in triples for other in triples if one[::2] != other[::2]}
    more = True
    while more:
        more = False
        for one in triples:
            for other in triples:
                if (one, other) not in parting:
                    ends = [(slow_step(machine, one, letter), slow_step(machine, other, letter)) for letter in letters(machine)]
                    if any(pair in parting for pair in ends):
                        parting.add((one, other))
                        more = True
    return parting


def climbing(many, left):
    """Return a machine that needs 10 letters to come from each of so many standings to the next one.

    Letters of the left side go round by 12 of them, and so are taken back, but for (0, 2), which is let at one left place:
    behind these standings, and there alone, it leads to one more, from which none leads.
    """
    holding = tuple(place if place == left else -1 for place in range(3))
    sides = ((1, 2, -1), (-1, -1, 0), holding), ((-1, -1, -1, 0), (1, 2, 3, 0))
    out = many + 1
    rows = [(((at, ()), (at, (1,)), (at if at < many else out, ())), ((min(at + 1, many), ()), (out, ())))
            for at in range(many + 1)]
    return sides + (tuple(rows) + ((((out, ()),) * 3, ((out, ()),) * 2),),)


def mixing(seed, sides):
    """Return a machine with as many standings and edits of answers as there can be, each letter shuffling all standings."""
    chance = Chance(seed)
    rows = [[shuffled(chance, 64) for _ in side] for side in sides]
    return tuple(sides) + (tuple(tuple(tuple((row[at], chance.numbers(16, len(other))) for row in rows[side])
                                       for side, other in enumerate((sides[1], sides[0]))) for at in range(64)),)


def shuffled(chance, many):
    """Return a row of all numbers below one, in some order."""
    left = list(range(many))
    return tuple(left.pop(chance.below(len(left))) for _ in range(many))


def copying(side):
    """Return a machine with two sides that are the same, by which each edit of one is answered by itself on the other."""
    told = tuple((0, (edit,)) for edit in range(len(side)))
    return (side, side, ((told, told),))


def turned(machine):
    """Return a machine with its sides turned about."""
    return (machine[1], machine[0], tuple(standing[::-1] for standing in machine[2]))
