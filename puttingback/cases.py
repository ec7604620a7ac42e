"""Cases, the changes that are let in them, and the trails that part their things."""

from puttingback.asides import is_showing_within
from puttingback.errors import InvalidCase, InvalidLets, InvalidNumber
from puttingback.values import is_ascending, is_below, is_numbers_row, is_row, is_table

MOST_WORTHS = 6
MOST_THINGS = 12

# Stays and keys are integers below this.
STAYS = 12


def is_case(value):
    """Return whether any value is a case."""
    if not is_row(value, 3, 3) or not is_showing_within(value[0], MOST_WORTHS, MOST_THINGS):
        return False
    many, row = value[0]
    if not is_table(value[1], len(row), many) or not is_numbers_row(value[2], len(row), len(row), STAYS):
        return False
    return all([end is None or row[end] == worth for ends in value[1] for worth, end in enumerate(ends)])


def least_trail(case, lets, one, other):
    """Return the least trail that parts two things of the same worth, or None."""
    check_case(case)
    check_lets(case, lets)
    row = case[0][1]
    if not is_below(one, len(row)) or not is_below(other, len(row)):
        raise InvalidNumber("not a thing of the case")
    if row[one] != row[other]:
        raise InvalidNumber("not two things of the same worth")
    return parting_trail(case, lets, "always", one, other)


def check_case(case):
    """Raise InvalidCase for what is no case."""
    if not is_case(case):
        raise InvalidCase("not a case")


def check_lets(case, lets):
    """Raise InvalidLets for what is not lets of the worths of a case."""
    many = case[0][0]
    if not is_row(lets, 0, many * many) or not all([is_numbers_row(change, 2, 2, many) for change in lets]):
        raise InvalidLets("not a row of changes of the worths")
    if not is_ascending(lets):
        raise InvalidLets("not ascending")


def lets_from(case, lets, thing):
    """Return the list of the let changes from the worth of a thing."""
    return [change for change in lets if change[0] == case[0][1][thing]]


def answer_of(case, came):
    """Return what is answered where a thing comes, or None."""
    return None if came is None else case[2][came]


def parting_trail(case, lets, often, one, other):
    """Return the least trail (of one change, for once) that parts two things of the same worth, or None."""
    puts = case[1]
    seen = {(one, other): True}
    # Both things that come behind each trail, in the order of the trails.
    level = [(one, other, ())]
    while level:
        deeper = []
        for thing, beside, trail in level:
            for change in lets_from(case, lets, thing):
                pair = (puts[thing][change[1]], puts[beside][change[1]])
                if answer_of(case, pair[0]) != answer_of(case, pair[1]):
                    return trail + (change,)
                if pair[0] is not None and pair not in seen:
                    seen[pair] = True
                    deeper.append((pair[0], pair[1], trail + (change,)))
        level = deeper if often == "always" else []
    return None


def pairs_come(case, lets, often, pairs):
    """Return the list of the pairs of what comes, things or None, by trails of both of some pairs of things.

    The two things of each pair have the same worth; the trails are of one change, for once.
    """
    puts = case[1]
    come = {}
    level = list(pairs)
    while level:
        deeper = []
        for one, other in level:
            for _, worth in lets_from(case, lets, one):
                pair = (puts[one][worth], puts[other][worth])
                if pair not in come and None not in pair:
                    deeper.append(pair)
                come[pair] = True
        level = deeper if often == "always" else []
    return list(come)


def parts_none(case, lets, often, pairs):
    """Return whether no trail (of one change, for once) parts the two things of one of some pairs."""
    come = pairs_come(case, lets, often, pairs)
    return all([answer_of(case, one) == answer_of(case, other) for one, other in come])


def alike_pairs(case, marks):
    """Return the list of the pairs of things, the lesser first, with the same worth and the same mark."""
    row = case[0][1]
    pairs = [(one, other) for other in range(len(row)) for one in range(other)]
    return sorted([(one, other) for one, other in pairs if row[one] == row[other] and marks[one] == marks[other]])
