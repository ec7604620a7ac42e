"""What terms show of things, and what puts come to.

A term is worked off by its plan: the same row, but with the index of a part in the place of its word, with the terms
of parts alone in the place of their pairs, and with the integer of the worths behind sum and less. So the kinds are
looked at once, and not for each thing.
"""

from puttingback.errors import InvalidWorth
from puttingback.kinds import check_kind, check_thing, is_thing_in
from puttingback.terms import check_term, worths_kind


def shown(kind, term, thing):
    """Return what a term shows of a thing."""
    check_kind(kind)
    check_term(kind, term)
    check_thing(kind, thing)
    return plan_shows(plan_of(kind, term), thing)


def put_back(kind, term, thing, worth):
    """Return what the put of a worth into a thing comes to."""
    check_kind(kind)
    check_term(kind, term)
    check_thing(kind, thing)
    if not is_thing_in(worths_kind(kind, term), worth):
        raise InvalidWorth("not a worth of the term")
    return plan_puts(plan_of(kind, term), thing, worth)


def plan_of(kind, term):
    """Return the plan of what surely is a term over a kind."""
    word = term[0]
    if word == "part":
        return (word, [pair[0] for pair in kind].index(term[1]))
    if word == "parts":
        return (word, tuple([plan_of(kind, pair[1]) for pair in term[1]]))
    if word == "then":
        return (word, plan_of(kind, term[1]), plan_of(worths_kind(kind, term[1]), term[2]))
    if word in ("sum", "less"):
        return (word, plan_of(kind, term[1]), plan_of(kind, term[2]), worths_kind(kind, term[1]))
    if word == "test":
        return (word, plan_of(kind, term[1]), term[2], plan_of(kind, term[3]), plan_of(kind, term[4]))
    return term


def plan_shows(plan, thing):
    """Return what a plan shows of a thing."""
    word = plan[0]
    if word == "whole":
        return thing
    if word == "part":
        return thing[plan[1]]
    if word == "fixed":
        return plan[1]
    if word == "table":
        return plan[1][thing]
    if word == "parts":
        return tuple([plan_shows(one, thing) for one in plan[1]])
    one = plan_shows(plan[1], thing)
    if word == "then":
        return plan_shows(plan[2], one)
    if word == "sum":
        return (one + plan_shows(plan[2], thing)) % plan[3]
    if word == "less":
        return (one - plan_shows(plan[2], thing)) % plan[3]
    return plan_shows(plan[3] if one in plan[2] else plan[4], thing)


def plan_puts(plan, thing, worth):
    """Return what the put of a worth into a thing, by a plan, comes to."""
    word = plan[0]
    if word == "whole":
        return ("thing", worth)
    if word == "part":
        return ("thing", thing[:plan[1]] + (worth,) + thing[plan[1] + 1:])
    if word == "fixed":
        return ("thing", thing) if worth == plan[1] else ("refused", ())
    if word == "table":
        return table_puts(plan[1], thing, worth)
    if word == "then":
        return then_puts(plan, thing, worth)
    if word == "parts":
        came = parts_puts(plan[1], thing, worth)
    elif word == "test":
        place = 1 if plan_shows(plan[1], thing) in plan[2] else 2
        came = placed(place, plan_puts(plan[place + 2], thing, worth))
    else:
        came = number_puts(plan, thing, worth)
    if came[0] == "thing" and plan_shows(plan, came[1]) != worth:
        return ("refused", ())
    return came


def placed(place, came):
    """Return what a put by the term at a place comes to, as the term around it tells it."""
    return came if came[0] == "thing" else ("refused", (place,) + came[1])


def table_puts(row, thing, worth):
    """Return what the put of a number into a thing, by a table, comes to."""
    if row[thing] == worth:
        return ("thing", thing)
    return ("thing", row.index(worth)) if worth in row else ("refused", ())


def then_puts(plan, thing, worth):
    """Return what a put by one term behind another one comes to."""
    came = placed(1, plan_puts(plan[2], plan_shows(plan[1], thing), worth))
    return came if came[0] == "refused" else placed(0, plan_puts(plan[1], thing, came[1]))


def parts_puts(plans, thing, worth):
    """Return what the worths put in turn come to, before it is looked whether they are all shown at last."""
    came = ("thing", thing)
    for place, plan in enumerate(plans):
        came = placed(place, plan_puts(plan, came[1], worth[place]))
        if came[0] == "refused":
            return came
    return came


def number_puts(plan, thing, worth):
    """Return what a put by a sum or a less comes to, before it is looked whether the worth is shown at last."""
    two = plan_shows(plan[2], thing)
    if plan[0] == "sum":
        two = -two
    return placed(0, plan_puts(plan[1], thing, (worth + two) % plan[3]))
