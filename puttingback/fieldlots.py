"""Fields: keys of which lots are looked at together."""

from puttingback.cases import alike_pairs, check_case, check_lets, parts_none
from puttingback.errors import InvalidKeys
from puttingback.keeping import check_keys, check_often
from puttingback.values import is_row, least_lots

MOST_FIELDS = 5


def holding_lots(case, lets, fields, often):
    """Return the ascending list of the lots that hold, but do not without any one of their fields."""
    check_case(case)
    check_lets(case, lets)
    check_fields(case, fields)
    check_often(often)
    return least_lots(len(fields), lambda lot: parts_none(case, lets, often, alike_in_lot(case, fields, lot)))


def check_fields(case, fields):
    """Raise InvalidKeys for what is not fields of the things of a case."""
    if not is_row(fields, 0, MOST_FIELDS):
        raise InvalidKeys("not a row of fields")
    for keys in fields:
        check_keys(case, keys)


def alike_in_lot(case, fields, lot):
    """Return the list of the pairs of things with the same worth that are the same in all fields of a lot."""
    things = len(case[0][1])
    return alike_pairs(case, [tuple([fields[index][thing] for index in lot]) for thing in range(things)])
