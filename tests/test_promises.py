"""What point 3 says of kinds, terms, puts and diagrams, of ways that lose, and of roads, over many of these."""

import unittest
from itertools import combinations

from puttingback.claims import claim_paper, stranded
from puttingback.diagrams import asked_leaves, least_diagram, unlike_thing
from puttingback.kinds import leaves_of, number_of, things_of
from puttingback.likenets import new_numbers, way_parting
from puttingback.losses import leaves_told, row_back
from puttingback.nets import way_end, way_row
from puttingback.onewaynets import table_from
from puttingback.putting import first_refusal, unlike_put
from puttingback.roads import is_closed_lot, things_come
from puttingback.showing import put_back, shown
from puttingback.tables import puts_of, showing_of
from puttingback.terms import kind_shown
from puttingback.turning import turned_shares
from puttingback.turnings import naming_of
from tests.asking import Asking
from tests.lifesamples import ROUND, leaving, rows_of_terms, stepping
from tests.netsamples import nets, slow_classes, ways_of
from tests.samples import KINDS, at_path, good_terms


class Promises(Asking):
    def test_what_is_put_is_shown(self):
        for kind in KINDS:
            for term in good_terms(kind, 100):
                worths = things_of(kind_shown(kind, term))
                for thing in things_of(kind):
                    for worth in worths[:12]:
                        came = put_back(kind, term, thing, worth)
                        if came[0] == "thing":
                            self.assertEqual(shown(kind, term, came[1]), worth)

    def test_what_is_shown_put_back_changes_nothing(self):
        for kind in KINDS:
            for term in good_terms(kind, 300):
                for thing in things_of(kind):
                    self.assertEqual(put_back(kind, term, thing, shown(kind, term, thing)), ("thing", thing))

    def test_tables_of_puts(self):
        for kind in KINDS:
            for term in good_terms(kind, 100):
                showing, puts = showing_of(kind, term), puts_of(kind, term)
                for thing, row in enumerate(puts):
                    self.assertEqual(row[showing[thing]], thing)
                    self.assertTrue(all(end is None or showing[end] == worth for worth, end in enumerate(row)))

    def test_least_diagrams_tell_what_shows_the_same(self):
        for kind in KINDS:
            terms = good_terms(kind, 100)
            shows = [[shown(kind, term, thing) for thing in things_of(kind)] for term in terms]
            diagrams = [least_diagram(kind, term) for term in terms]
            for one, show in enumerate(shows):
                for other, other_show in enumerate(shows):
                    self.assertIs(diagrams[one] == diagrams[other], show == other_show)

    def test_no_thing_is_unlike_just_if_the_least_diagrams_are_the_same(self):
        for kind in KINDS:
            terms = good_terms(kind, 12)
            for one in terms:
                for other in terms:
                    same = least_diagram(kind, one) == least_diagram(kind, other)
                    self.assertIs(unlike_thing(kind, one, other) is None, same)

    def test_leaves_that_are_asked(self):
        for kind in KINDS:
            things, leaves = things_of(kind), leaves_of(kind)
            for term in good_terms(kind, 60):
                asked = asked_leaves(kind, term)
                for leaf in leaves:
                    lots = {}
                    for thing in things:
                        rest = tuple(at_path(thing, other) for other in leaves if other != leaf)
                        lots.setdefault(rest, []).append(shown(kind, term, thing))
                    unlike = any(show != shows[0] for shows in lots.values() for show in shows)
                    self.assertIs(leaf in asked, unlike, (kind, term, leaf))

    def test_puts_are_alike_just_if_their_tables_are(self):
        for kind in KINDS:
            terms = good_terms(kind, 8)
            for one in terms:
                self.assertIs(first_refusal(kind, one) is None, not any(None in row for row in puts_of(kind, one)))
                for other in terms:
                    if kind_shown(kind, one) == kind_shown(kind, other):
                        alike = puts_of(kind, one) == puts_of(kind, other)
                        self.assertIs(unlike_put(kind, one, other) is None, alike)


class PromisesOfNets(Asking):
    def test_ways_of_turning_nets_come_to_the_same_just_if_there_is_a_naming(self):
        for net in nets(60, True, 2, 3):
            rows = {}
            for version in range(len(net[0])):
                for way in ways_of(net, version, 4, True):
                    rows.setdefault((version, way_end(net, way)), []).append(way_row(net, way))
            self.assertIs(naming_of(net) is not None, all(len(set(found)) == 1 for found in rows.values()))

    def test_ways_on_come_to_the_same_just_if_one_table_is_closed(self):
        for net in nets(60, True, 3, 4) + nets(120, False):
            for version in range(len(net[0])):
                rows = {}
                for way in ways_of(net, version, 4, False):
                    rows.setdefault(way_end(net, way), set()).add(way_row(net, way))
                table = table_from(net, version)
                self.assertIs(table is not None, all(len(found) == 1 for found in rows.values()))
                if table is not None:
                    self.assertEqual({other: {row} for other, row in enumerate(table) if row is not None}, rows)
                    for one, other, row in net[1]:
                        self.assertTrue(table[one] is None or table[other] == tuple(row[number] for number in table[one]))

    def test_nets_are_one_but_for_new_numbers_just_if_their_classes_pair_off(self):
        found = {}
        for net in nets(120, True, 2, 2):
            found.setdefault((net[0], tuple(step[:2] for step in net[1])), []).append(net)
        told = {True: 0, False: 0}
        for lot in found.values():
            for one, other in [(one, other) for one in lot[:4] for other in lot[:4]]:
                left, lone = slow_classes(other), 0
                # As things that no way parts are so by turns, the first class that pairs with one serves.
                for places in slow_classes(one):
                    pair = [lot for lot in left if any(place[0] == place_two[0] and way_parting(one, other, place, place_two) is None
                                                       for place in places for place_two in lot)][:1]
                    left = [lot for lot in left if lot not in pair]
                    lone += not pair
                self.assertIs(new_numbers(one, other) is not None, lone == 0 and left == [])
                told[lone == 0] += 1
        self.assertGreater(min(told.values()), 20)

    def test_one_row_back_restores_all_leaves_that_a_way_tells(self):
        for net in nets(120, False):
            for version, kind in enumerate(net[0]):
                things = things_of(kind)
                for way in ways_of(net, version, 2, False) if things else []:
                    row, told = way_row(net, way), leaves_told(net, way)
                    for leaf in leaves_of(kind):
                        differ = any(row[one] == row[other] and at_path(things[one], leaf) != at_path(things[other], leaf)
                                     for one in range(len(row)) for other in range(one))
                        self.assertIs(leaf in told, not differ)
                    back = row_back(net, way)
                    for number, thing in enumerate(things):
                        self.assertTrue(all(at_path(things[back[row[number]]], leaf) == at_path(thing, leaf) for leaf in told))


class PromisesOfRoads(Asking):
    SMALL = [(kind, terms) for kind, terms in rows_of_terms(150) if len(things_of(kind)) <= 8]
    SMALL += [(many, (stepping(many, ring),)) for many in (2, 5, 8) for ring in (False, True)]

    def closed_lots(self, kind, terms):
        """Return all closed lots."""
        many = len(things_of(kind))
        lots = [lot for length in range(many + 1) for lot in combinations(range(many), length)]
        return [lot for lot in lots if is_closed_lot(kind, terms, lot)]

    def test_claims_hold_just_if_a_closed_lot_tells_so(self):
        for kind, terms in self.SMALL:
            lots, things = self.closed_lots(kind, terms), things_of(kind)
            for leaf in leaves_of(kind):
                for numbers in ((0,), (0, 1), (1,)):
                    if set(numbers) <= {at_path(thing, leaf) for thing in things}:
                        holding = {number for number, thing in enumerate(things) if at_path(thing, leaf) in numbers}
                        for number, thing in enumerate(things):
                            word, paper = claim_paper(kind, terms, thing, ((leaf, numbers),))
                            proving = [lot for lot in lots if number in lot and set(lot) <= holding]
                            self.assertIs(word == "lot", proving != [])
                            self.assertTrue(word == "road" or all(set(paper) <= set(lot) for lot in proving))

    def test_things_come_back_just_if_no_closed_lot_is_without_them(self):
        told = {True: 0, False: 0}
        for kind, terms in self.SMALL + [(ROUND, leaving(3))]:
            lots = self.closed_lots(kind, terms)
            for thing in things_of(kind):
                number, come = number_of(kind, thing), things_come(kind, terms, thing)
                back = not any(number not in lot and set(lot) & set(come) for lot in lots)
                self.assertIs(stranded(kind, terms, thing) is None, back)
                told[back] += 1
        self.assertGreater(min(told.values()), 30)

    def test_worths_of_puts_that_turn_back_have_equal_shares(self):
        told = 0
        for kind in KINDS:
            for term in good_terms(kind, 100):
                shares = turned_shares(kind, term)
                if shares is not None:
                    showing = showing_of(kind, term)
                    self.assertEqual(shares, tuple(showing.count(worth) for worth in range(len(shares))))
                    self.assertLessEqual(len(set(shares)), 1)
                    told += 1
        self.assertGreater(told, 40)


if __name__ == "__main__":
    unittest.main()
