"""Tables of puts: which of them are those of a kept aside, and the faults of the others."""

from puttingback.asides import check_showing
from puttingback.errors import InvalidPuts
from puttingback.values import is_below, is_row, is_table, tidy_row


def kept_of(showing, puts):
    """Return the tidy aside of which puts are those, or None."""
    check_showing(showing)
    check_puts(showing, puts)
    if first_fault(showing, puts) is not None:
        return None
    # Without a fault, just the things that an aside would have on one side are put alike.
    return tidy_row(puts)


def puts_fault(showing, puts):
    """Return any fault of puts, or None."""
    check_showing(showing)
    check_puts(showing, puts)
    return first_fault(showing, puts)


def is_puts_fault(showing, puts, value):
    """Return whether any value is a fault of puts."""
    check_showing(showing)
    check_puts(showing, puts)
    many, row = showing
    if not is_row(value, 2, 4) or not is_below(value[1], len(row)):
        return False
    if value[0] == "own" and len(value) == 2:
        return is_own_fault(showing, puts, value[1])
    if len(value) == 2 or not is_below(value[2], many):
        return False
    if value[0] == "worth" and len(value) == 3:
        return is_worth_fault(showing, puts, value[1], value[2])
    if value[0] != "twice" or len(value) != 4 or not is_below(value[3], many):
        return False
    return is_twice_fault(puts, value[1], value[2], value[3])


def check_puts(showing, puts):
    """Raise InvalidPuts for what is not puts of a showing."""
    if not is_table(puts, len(showing[1]), showing[0]):
        raise InvalidPuts("not puts of the showing")


def is_own_fault(showing, puts, thing):
    """Return whether its own worth is not put into a thing to itself."""
    return puts[thing][showing[1][thing]] != thing


def is_worth_fault(showing, puts, thing, worth):
    """Return whether a worth is put into a thing to one with another worth."""
    end = puts[thing][worth]
    return end is not None and showing[1][end] != worth


def is_twice_fault(puts, thing, worth, later):
    """Return whether a later worth is put otherwise into what a put comes to than into the thing itself."""
    end = puts[thing][worth]
    return end is not None and puts[end][later] != puts[thing][later]


def first_fault(showing, puts):
    """Return the first fault found of puts, or None."""
    many, row = showing
    for thing in range(len(row)):
        if is_own_fault(showing, puts, thing):
            return ("own", thing)
        for worth in range(many):
            if is_worth_fault(showing, puts, thing, worth):
                return ("worth", thing, worth)
            for later in range(many):
                if is_twice_fault(puts, thing, worth, later):
                    return ("twice", thing, worth, later)
    return None
