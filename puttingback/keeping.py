"""Keys: what is kept of the things of a case, for one change or for trails of them."""

from puttingback.cases import (STAYS, alike_pairs, answer_of, check_case, check_lets, lets_from, parting_trail,
                               parts_none)
from puttingback.errors import InvalidKeys, InvalidOften
from puttingback.values import is_numbers_row

OFTEN = ("once", "always")


def keys_hold(case, lets, keys, often):
    """Return whether keys hold."""
    check_case(case)
    check_lets(case, lets)
    check_keys(case, keys)
    check_often(often)
    return parts_none(case, lets, often, alike_pairs(case, keys))


def first_parted(case, lets, keys, often):
    """Return the first two things with the same worth and key that a trail parts, with the least one, or None."""
    check_case(case)
    check_lets(case, lets)
    check_keys(case, keys)
    check_often(often)
    for one, other in alike_pairs(case, keys):
        trail = parting_trail(case, lets, often, one, other)
        if trail is not None:
            return (one, other, trail)
    return None


def least_keys(case, lets, often):
    """Return the least keys."""
    check_case(case)
    check_lets(case, lets)
    check_often(often)
    row = case[0][1]
    keys = []
    for thing, worth in enumerate(row):
        ahead = [other for other in range(thing) if row[other] == worth]
        alike = [other for other in ahead if parting_trail(case, lets, often, other, thing) is None]
        # The numbers that things of one worth have so far are all from 0 on.
        keys.append(keys[alike[0]] if alike else len({keys[other] for other in ahead}))
    return tuple(keys)


def keys_go_on(case, lets, keys):
    """Return whether keys go on."""
    check_case(case)
    check_lets(case, lets)
    check_keys(case, keys)
    return do_go_on(case, lets, keys)


def answers_by(case, lets, keys):
    """Return the ascending list of what is answered by keys that hold once, or None for others."""
    check_case(case)
    check_lets(case, lets)
    check_keys(case, keys)
    if not parts_none(case, lets, "once", alike_pairs(case, keys)):
        return None
    return told_by_keys(case, lets, keys, lambda came: answer_of(case, came))


def renewals_by(case, lets, keys):
    """Return the ascending list of the keys behind by keys that go on, or None for others."""
    check_case(case)
    check_lets(case, lets)
    check_keys(case, keys)
    if not do_go_on(case, lets, keys):
        return None
    rows = told_by_keys(case, lets, keys, lambda came: None if came is None else keys[came])
    return [row for row in rows if row[3] is not None]


def check_keys(case, keys):
    """Raise InvalidKeys for what is not keys of the things of a case."""
    many = len(case[0][1])
    if not is_numbers_row(keys, many, many, STAYS):
        raise InvalidKeys("not keys of the things of the case")


def check_often(often):
    """Raise InvalidOften for what does not tell how often keys hold."""
    if often not in OFTEN:
        raise InvalidOften("neither once nor always")


def do_go_on(case, lets, keys):
    """Return whether what surely are keys go on."""
    pairs = alike_pairs(case, keys)
    if not parts_none(case, lets, "once", pairs):
        return False
    puts = case[1]
    # As the keys hold once, a change is done at both things of a pair or at none.
    ends = [(puts[one][worth], puts[other][worth]) for one, other in pairs for _, worth in lets_from(case, lets, one)]
    return all([one is None or keys[one] == keys[other] for one, other in ends])


def told_by_keys(case, lets, keys, told):
    """Return the ascending list of the rows (from, key, to, what is told of the thing that comes, or of None)."""
    rows = {}
    for thing, key in enumerate(keys):
        for change in lets_from(case, lets, thing):
            rows[(change[0], key, change[1])] = told(case[1][thing][change[1]])
    return [row + (rows[row],) for row in sorted(rows)]
