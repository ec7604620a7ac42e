"""Keepers: lives that go on by puts, which can be taken back and done again."""

from puttingback.errors import InvalidIndex, InvalidWorth, NothingToRedo, NothingToUndo, TooMany
from puttingback.kinds import check_kind, check_thing, is_thing_in
from puttingback.lives import MOST_DEEDS, check_terms, thing_behind
from puttingback.showing import plan_of, plan_puts, plan_shows
from puttingback.terms import worths_kind
from puttingback.values import is_below


class Keeper:
    """A life without deeds at first, to which each put adds one."""

    def __init__(self, kind, terms, thing):
        check_kind(kind)
        check_terms(kind, terms)
        check_thing(kind, thing)
        self._kind = kind
        self._terms = terms
        self._plans = tuple([plan_of(kind, term) for term in terms])
        self._things = (thing,)
        self._deeds = ()
        # The deeds taken back, each with the thing that stood behind it, the last one taken back at the end.
        self._undone = ()

    def put(self, index, worth):
        """Do a deed more, and return what its put comes to."""
        if not is_below(index, len(self._terms)):
            raise InvalidIndex("not the index of a term")
        if not is_thing_in(worths_kind(self._kind, self._terms[index]), worth):
            raise InvalidWorth("not a worth of the term")
        if len(self._deeds) >= MOST_DEEDS:
            raise TooMany(MOST_DEEDS)
        thing = self._things[-1]
        end = plan_puts(self._plans[index], thing, worth)
        self._things = self._things + (thing_behind(thing, end),)
        self._deeds = self._deeds + ((index, worth),)
        self._undone = ()
        return end

    def undo(self):
        """Take back the last deed that is not taken back yet."""
        if not self._deeds:
            raise NothingToUndo("no deed stands")
        self._undone = self._undone + ((self._deeds[-1], self._things[-1]),)
        self._deeds = self._deeds[:-1]
        self._things = self._things[:-1]

    def redo(self):
        """Do the deed again that was taken back last."""
        if not self._undone:
            raise NothingToRedo("no deed has been taken back since the last put")
        deed, thing = self._undone[-1]
        self._undone = self._undone[:-1]
        self._deeds = self._deeds + (deed,)
        self._things = self._things + (thing,)

    def attempt(self, action):
        """Return what a function returns of this keeper; if it ends with an error, all is as before."""
        things, deeds, undone = self._things, self._deeds, self._undone
        failed = True
        try:
            answer = action(self)
            failed = None
        finally:
            # An error goes on by itself.
            if failed is not None:
                self._things, self._deeds, self._undone = things, deeds, undone
        return answer

    @property
    def life(self):
        """Return the life as it stands."""
        return (self._kind, self._terms, self._things[0], self._deeds)

    @property
    def thing(self):
        """Return the thing that stands."""
        return self._things[-1]

    @property
    def worths(self):
        """Return the row of what all terms show of the thing that stands."""
        return tuple([plan_shows(plan, self._things[-1]) for plan in self._plans])

    def __len__(self):
        return len(self._deeds)

    def __eq__(self, other):
        return isinstance(other, Keeper) and self.life == other.life
