"""Which changes can be let, so that keys hold."""

from puttingback.cases import alike_pairs, check_case, check_lets, parts_none
from puttingback.errors import TooMany
from puttingback.keeping import check_keys
from puttingback.values import all_lots

MOST_LETS = 6


def lets_once(case, keys):
    """Return the ascending row of all changes for which, if they are let, keys hold once."""
    check_case(case)
    check_keys(case, keys)
    many = case[0][0]
    pairs = alike_pairs(case, keys)
    changes = [(one, other) for one in range(many) for other in range(many)]
    # No other changes matter for what is answered to one.
    return tuple([change for change in changes if parts_none(case, (change,), "once", pairs)])


def lets_always(case, keys, lets):
    """Return the ascending list of the greatest rows of some lets for which keys hold always."""
    check_case(case)
    check_keys(case, keys)
    check_lets(case, lets)
    if len(lets) > MOST_LETS:
        raise TooMany(MOST_LETS)
    pairs = alike_pairs(case, keys)
    found = []
    for lot in reversed(all_lots(len(lets))):
        within = [row for row in found if all([lets[index] in row for index in lot])]
        row = tuple([lets[index] for index in lot])
        if not within and parts_none(case, row, "always", pairs):
            found.append(row)
    return sorted(found)
