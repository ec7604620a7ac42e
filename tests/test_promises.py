"""What point 3 says of kinds, terms, puts and diagrams, over many of these."""

import unittest

from puttingback.diagrams import asked_leaves, least_diagram, unlike_thing
from puttingback.kinds import leaves_of, things_of
from puttingback.putting import first_refusal, unlike_put
from puttingback.showing import put_back, shown
from puttingback.tables import puts_of, showing_of
from puttingback.terms import kind_shown
from tests.asking import Asking
from tests.samples import KINDS, at_path, good_terms


class Promises(Asking):
    def test_what_is_put_is_shown(self):
        for kind in KINDS:
            for term in good_terms(kind, 100):
                worths = things_of(kind_shown(kind, term))
                for thing in things_of(kind):
                    for worth in worths[:12]:
                        came = put_back(kind, term, thing, worth)
                        if came[0] == "thing":
                            self.assertEqual(shown(kind, term, came[1]), worth)

    def test_what_is_shown_put_back_changes_nothing(self):
        for kind in KINDS:
            for term in good_terms(kind, 300):
                for thing in things_of(kind):
                    self.assertEqual(put_back(kind, term, thing, shown(kind, term, thing)), ("thing", thing))

    def test_tables_of_puts(self):
        for kind in KINDS:
            for term in good_terms(kind, 100):
                showing, puts = showing_of(kind, term), puts_of(kind, term)
                for thing, row in enumerate(puts):
                    self.assertEqual(row[showing[thing]], thing)
                    self.assertTrue(all(end is None or showing[end] == worth for worth, end in enumerate(row)))

    def test_least_diagrams_tell_what_shows_the_same(self):
        for kind in KINDS:
            terms = good_terms(kind, 100)
            shows = [[shown(kind, term, thing) for thing in things_of(kind)] for term in terms]
            diagrams = [least_diagram(kind, term) for term in terms]
            for one, show in enumerate(shows):
                for other, other_show in enumerate(shows):
                    self.assertIs(diagrams[one] == diagrams[other], show == other_show)

    def test_no_thing_is_unlike_just_if_the_least_diagrams_are_the_same(self):
        for kind in KINDS:
            terms = good_terms(kind, 12)
            for one in terms:
                for other in terms:
                    same = least_diagram(kind, one) == least_diagram(kind, other)
                    self.assertIs(unlike_thing(kind, one, other) is None, same)

    def test_leaves_that_are_asked(self):
        for kind in KINDS:
            things, leaves = things_of(kind), leaves_of(kind)
            for term in good_terms(kind, 60):
                asked = asked_leaves(kind, term)
                for leaf in leaves:
                    lots = {}
                    for thing in things:
                        rest = tuple(at_path(thing, other) for other in leaves if other != leaf)
                        lots.setdefault(rest, []).append(shown(kind, term, thing))
                    unlike = any(show != shows[0] for shows in lots.values() for show in shows)
                    self.assertIs(leaf in asked, unlike, (kind, term, leaf))

    def test_puts_are_alike_just_if_their_tables_are(self):
        for kind in KINDS:
            terms = good_terms(kind, 8)
            for one in terms:
                self.assertIs(first_refusal(kind, one) is None, not any(None in row for row in puts_of(kind, one)))
                for other in terms:
                    if kind_shown(kind, one) == kind_shown(kind, other):
                        alike = puts_of(kind, one) == puts_of(kind, other)
                        self.assertIs(unlike_put(kind, one, other) is None, alike)


if __name__ == "__main__":
    unittest.main()
