"""What at least may stay of things, so that keys hold."""

from puttingback.cases import alike_pairs, check_case, check_lets, pairs_come
from puttingback.keeping import check_keys, check_often
from puttingback.values import tidy_row


def firm_stays(case, lets, keys, often):
    """Return the firm stays for keys, or None if there are none."""
    check_case(case)
    check_lets(case, lets)
    check_keys(case, keys)
    check_often(often)
    marks = list(range(len(case[0][1])))
    for pair in pairs_come(case, lets, often, alike_pairs(case, keys)):
        if pair != (None, None):
            # No stays hold where a change is done at just one of two things that the keys do not tell apart.
            if None in pair:
                return None
            kept, lost = marks[pair[0]], marks[pair[1]]
            marks = [kept if mark == lost else mark for mark in marks]
    return tidy_row(marks)
