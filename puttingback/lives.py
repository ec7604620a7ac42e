"""Lives: things through which rows of puts lead."""

from puttingback.errors import InvalidLeaf, InvalidLife, InvalidTerms
from puttingback.kinds import at_leaf, is_kind, is_thing_in, leaf_limit
from puttingback.showing import plan_of, plan_puts
from puttingback.terms import is_term_over, worths_kind
from puttingback.values import is_below, is_row

MOST_TERMS = 4
MOST_DEEDS = 40


def is_life(value):
    """Return whether any value is a life."""
    if not is_row(value, 4, 4) or not is_kind(value[0]) or not is_terms(value[0], value[1]):
        return False
    kind, terms, thing, deeds = value
    if not is_thing_in(kind, thing) or not is_row(deeds, 0, MOST_DEEDS):
        return False
    return all([is_deed(kind, terms, deed) for deed in deeds])


def life_things(life):
    """Return the list of the things of a life."""
    check_life(life)
    return things_behind(life[2], ends_through(life))


def life_ends(life):
    """Return the list of what the puts of a life come to."""
    check_life(life)
    return ends_through(life)


def trail_of(life, leaf):
    """Return the row of the indices of the deeds by which the integer at a leaf became another one."""
    check_life(life)
    if leaf_limit(life[0], leaf) is None:
        raise InvalidLeaf("not a leaf of the kind")
    numbers = [at_leaf(thing, leaf) for thing in things_behind(life[2], ends_through(life))]
    return tuple([index for index in range(len(life[3])) if numbers[index] != numbers[index + 1]])


def spared_deeds(life):
    """Return the ascending list of the indices of all deeds that can be spared, each by itself."""
    check_life(life)
    kind, terms, thing, deeds = life
    ends = ends_through(life)
    last, words = things_behind(thing, ends)[-1], [end[0] for end in ends]
    spared = []
    for index in range(len(deeds)):
        others = ends_through((kind, terms, thing, deeds[:index] + deeds[index + 1:]))
        if [end[0] for end in others] == words[:index] + words[index + 1:] and things_behind(thing, others)[-1] == last:
            spared.append(index)
    return spared


def check_life(life):
    """Raise InvalidLife for what is no life."""
    if not is_life(life):
        raise InvalidLife("not a life")


def check_terms(kind, terms):
    """Raise InvalidTerms for what is no row of terms as in a life."""
    if not is_terms(kind, terms):
        raise InvalidTerms("not a row of terms over the kind")


def is_terms(kind, value):
    """Return whether any value is a row of terms, as in a life, over what surely is a kind."""
    return is_row(value, 1, MOST_TERMS) and all([is_term_over(kind, term) for term in value])


def is_deed(kind, terms, value):
    """Return whether any value is a pair of an index of a term and of a worth of it."""
    if not is_row(value, 2, 2) or not is_below(value[0], len(terms)):
        return False
    return is_thing_in(worths_kind(kind, terms[value[0]]), value[1])


def ends_through(life):
    """Return the list of what the puts of what surely is a life come to."""
    kind, terms, thing, deeds = life
    plans = [plan_of(kind, term) for term in terms]
    ends = []
    for index, worth in deeds:
        end = plan_puts(plans[index], thing, worth)
        ends.append(end)
        thing = thing_behind(thing, end)
    return ends


def things_behind(thing, ends):
    """Return the list of a first thing and of those that stand behind each of some puts, by what these come to."""
    things = [thing]
    for end in ends:
        things.append(thing_behind(things[-1], end))
    return things


def thing_behind(thing, end):
    """Return the thing that stands behind a put into one, by what it comes to."""
    return end[1] if end[0] == "thing" else thing
