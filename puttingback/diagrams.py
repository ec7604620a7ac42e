"""Diagrams: what a term shows, told by asking leaves."""

from puttingback.errors import InvalidDiagram
from puttingback.kinds import all_leaves, all_things, at_leaf, check_kind, check_thing, is_thing_in, leaf_limit
from puttingback.showing import plan_of, plan_shows
from puttingback.terms import check_term
from puttingback.values import is_numbers_row, is_row

MOST_LINES = 1000


def least_diagram(kind, term):
    """Return the least diagram of a term."""
    check_kind(kind)
    check_term(kind, term)
    return diagram_of(kind, term)


def is_diagram(kind, worths, value):
    """Return whether any value is a diagram of a kind and of a kind of worths."""
    check_kind(kind)
    check_kind(worths)
    return is_diagram_of(kind, worths, value)


def diagram_shown(kind, worths, diagram, thing):
    """Return what a diagram, one that has lines, tells a thing."""
    check_kind(kind)
    check_kind(worths)
    if not is_diagram_of(kind, worths, diagram) or not diagram:
        raise InvalidDiagram("not a diagram that has lines")
    check_thing(kind, thing)
    line = diagram[-1]
    while line[0] == "ask":
        line = diagram[line[2][at_leaf(thing, line[1])]]
    return line[1]


def unlike_thing(kind, term, other):
    """Return the first thing of which two terms show unlike worths, or None."""
    check_kind(kind)
    check_term(kind, term)
    check_term(kind, other)
    plan = plan_of(kind, term)
    other_plan = plan_of(kind, other)
    for thing in all_things(kind):
        if plan_shows(plan, thing) != plan_shows(other_plan, thing):
            return thing
    return None


def asked_leaves(kind, term):
    """Return the ascending list of the leaves in the least diagram of a term."""
    check_kind(kind)
    check_term(kind, term)
    return sorted({line[1] for line in diagram_of(kind, term) if line[0] == "ask"})


def is_diagram_of(kind, worths, value):
    """Return whether any value is a diagram of what surely are a kind and a kind of worths."""
    if not is_row(value, 0, MOST_LINES):
        return False
    return all([is_line(kind, worths, line, index) for index, line in enumerate(value)])


def is_line(kind, worths, value, index):
    """Return whether any value is a line that may stand in a diagram at an index."""
    if is_row(value, 2, 2):
        return value[0] == "show" and is_thing_in(worths, value[1])
    if not is_row(value, 3, 3) or value[0] != "ask":
        return False
    many = leaf_limit(kind, value[1])
    return many is not None and is_numbers_row(value[2], many, many, index)


def diagram_of(kind, term):
    """Return the least diagram of what surely is a term over a kind."""
    things = all_things(kind)
    if not things:
        return ()
    plan = plan_of(kind, term)
    leaves = [(leaf, leaf_limit(kind, leaf)) for leaf in all_leaves(kind)]
    # A leaf with one integer tells nothing, and there may be many of these.
    asked = [pair for pair in leaves if pair[1] > 1]
    places = {}
    add_lines(places, asked, [plan_shows(plan, thing) for thing in things])
    return tuple(list(places))


def add_lines(places, asked, shows):
    """Add the lines that tell what is shown by some leaves, each with its index, and return that of the last one.

    The lines of each at are added before its own line, so they come to stand in the order of the least diagram.
    """
    line = ("show", shows[0])
    if asked:
        leaf, many = asked[0]
        step = len(shows) // many
        cuts = [shows[number * step:(number + 1) * step] for number in range(many)]
        ats = [add_lines(places, asked[1:], cut) for cut in cuts]
        if min(ats) == max(ats):
            return ats[0]
        line = ("ask", leaf, tuple(ats))
    if line not in places:
        places[line] = len(places)
    return places[line]
