"""What the puts of a term refuse, and what they change."""

from puttingback.errors import InvalidTerm
from puttingback.kinds import all_leaves, all_things, at_leaf, check_kind
from puttingback.showing import plan_of, plan_puts
from puttingback.tables import check_few_puts
from puttingback.terms import check_term, worths_kind


def first_refusal(kind, term):
    """Return the first thing, the first worth whose put into it is refused, and the path, or None."""
    check_kind(kind)
    check_term(kind, term)
    check_few_puts(kind, term)
    plan = plan_of(kind, term)
    worths = all_things(worths_kind(kind, term))
    for thing in all_things(kind):
        for worth in worths:
            came = plan_puts(plan, thing, worth)
            if came[0] == "refused":
                return (thing, worth, came[1])
    return None


def unlike_put(kind, term, other):
    """Return the first thing, and the first worth, by which the puts of two terms come to unlike ends, or None."""
    check_kind(kind)
    check_term(kind, term)
    check_term(kind, other)
    if worths_kind(kind, term) != worths_kind(kind, other):
        raise InvalidTerm("not terms of the same kind of worths")
    check_few_puts(kind, term)
    plan = plan_of(kind, term)
    other_plan = plan_of(kind, other)
    worths = all_things(worths_kind(kind, term))
    for thing in all_things(kind):
        for worth in worths:
            if are_unlike(plan_puts(plan, thing, worth), plan_puts(other_plan, thing, worth)):
                return (thing, worth)
    return None


def changed_leaves(kind, term):
    """Return the ascending list of the leaves that some put of a term changes."""
    check_kind(kind)
    check_term(kind, term)
    check_few_puts(kind, term)
    plan = plan_of(kind, term)
    worths = all_things(worths_kind(kind, term))
    left = all_leaves(kind)
    changed = []
    for thing in all_things(kind):
        for worth in worths:
            came = plan_puts(plan, thing, worth)
            if came[0] == "thing" and came[1] != thing:
                changed.extend([leaf for leaf in left if at_leaf(thing, leaf) != at_leaf(came[1], leaf)])
                left = [leaf for leaf in left if at_leaf(thing, leaf) == at_leaf(came[1], leaf)]
    return sorted(changed)


def are_unlike(came, other):
    """Return whether two puts come to unlike things, or just one of them is refused."""
    return came[0] != other[0] or came[0] == "thing" and came[1] != other[1]
