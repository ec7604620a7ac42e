import unittest
from itertools import product

from puttingback.asides import (is_serving_clash, is_showing, parting_put, put_alike, puts_kept, serves, serving_clash,
                                tidy_aside)
from puttingback.errors import InvalidAside, InvalidShowing
from tests.asking import Asking
from tests.values import disturbed, odd_values, spoiled

G, P, Q = (2, (0, 0, 1, 1)), (5, 7, 5, 7), (0, 1, 1, 0)

# Showings and asides of few things: all of them.
SHOWINGS = [(many, row) for many in range(4) for things in range(4) for row in product(range(many), repeat=things)]
SHOWINGS += [(2, row) for row in product(range(2), repeat=4)]


def asides(showing):
    """Return many asides of a showing."""
    return list(product((0, 3, 39), repeat=len(showing[1])))


def slow_puts(showing, aside):
    """Return the puts of an aside, read word by word, or None if it is not clear."""
    things = range(len(aside))
    if any(showing[1][a] == showing[1][b] and aside[a] == aside[b] for a in things for b in things if a != b):
        return None
    table = []
    for thing in things:
        found = [[other for other in things if showing[1][other] == worth and aside[other] == aside[thing]]
                 for worth in range(showing[0])]
        table.append(tuple(others[0] if others else None for others in found))
    return tuple(table)


def slow_clashes(showing, aside):
    """Return all serving clashes of an aside, read word by word."""
    many, row = showing
    things = range(len(row))
    alike = [("alike", a, b) for a in things for b in things if a < b and row[a] == row[b] and aside[a] == aside[b]]
    return alike + [("lack", thing, worth) for thing in things for worth in range(many)
                    if not any(row[other] == worth and aside[other] == aside[thing] for other in things)]


def lots(aside):
    """Return how an aside divides things, told by pairs."""
    return [one == other for one in aside for other in aside]


class Examples(Asking):
    def test_as_they_stand(self):
        self.assertEqual([tidy_aside(G, P), puts_kept(G, P), serves(G, P), is_serving_clash(G, (0, 1, 1, 1), ("alike", 2, 3)),
                          parting_put(G, P, Q)],
                         [(0, 1, 0, 1), ((0, 2), (1, 3), (0, 2), (1, 3)), True, True, (0, 1)])


class Showings(Asking):
    def test_limits(self):
        for value in [(0, ()), (12, ()), (12, (11,) * 40), (1, (0,)), (3, (2, 0))]:
            self.says(True, is_showing(value))
        for value in [(13, ()), (-1, ()), (12, (11,) * 41), (12, (12,)), (1, (-1,)), (0, (0,)), (True, (0,)), (2, (True,)),
                      (2, [0]), [2, (0,)], (2,), (2, (0,), ()), (2, None), (None, ()), (2, 0)]:
            self.says(False, is_showing(value))

    def test_any_values(self):
        for value in odd_values():
            self.says(isinstance(value, tuple) and value == (0, ()), is_showing(value))
        for value in spoiled(G):
            self.says(False, is_showing(value))
        for value in disturbed(G):
            self.assertIn(is_showing(value), (True, False))


class Asides(Asking):
    def test_tidy_asides(self):
        for showing in SHOWINGS:
            for aside in asides(showing):
                tidy = tidy_aside(showing, aside)
                self.assertEqual(lots(tidy), lots(aside))
                for index, side in enumerate(tidy):
                    least = min(number for number in range(41) if number not in tidy[:index])
                    self.assertTrue(side in tidy[:index] or side == least)
        self.assertEqual(tidy_aside((1, (0,) * 40), tuple(range(39, -1, -1))), tuple(range(40)))

    def test_puts_and_clashes_against_a_slow_reading(self):
        for showing in SHOWINGS:
            for aside in asides(showing):
                puts, clashes = slow_puts(showing, aside), slow_clashes(showing, aside)
                self.assertEqual(puts_kept(showing, aside), puts)
                self.says(puts is not None and not any(None in row for row in puts), serves(showing, aside))
                self.says(not clashes, serves(showing, aside))
                clash = serving_clash(showing, aside)
                self.assertTrue(clash in clashes or clash is None and not clashes)
                if len(aside) < 3:
                    for value in product(("alike", "lack", "like"), range(-1, 4), range(-1, 4)):
                        self.says(value in clashes, is_serving_clash(showing, aside, value))

    def test_is_serving_clash_at_any_values(self):
        aside = (0, 1, 1, 1)
        for clash in slow_clashes(G, aside):
            self.says(True, is_serving_clash(G, aside, clash))
            for value in spoiled(clash):
                self.says(False, is_serving_clash(G, aside, value))
            for value in disturbed(clash):
                plain = isinstance(value, tuple) and not any(isinstance(part, bool) for part in value)
                self.says(plain and value in slow_clashes(G, aside), is_serving_clash(G, aside, value))
            self.says(False, is_serving_clash(G, aside, clash + (0,)))
        for value in odd_values():
            self.says(False, is_serving_clash(G, aside, value))
        self.says(False, is_serving_clash(G, aside, ("alike", 3, 2)))
        self.says(False, is_serving_clash(G, aside, ("alike", 2, 2)))
        self.says(False, is_serving_clash(G, aside, ("lack", 4, 0)))
        self.says(False, is_serving_clash(G, aside, ("lack", 0, 2)))

    def test_two_asides(self):
        for showing in SHOWINGS:
            clear = [aside for aside in asides(showing) if slow_puts(showing, aside) is not None]
            for aside in clear[::2]:
                for beside in clear[::3]:
                    one, other = slow_puts(showing, aside), slow_puts(showing, beside)
                    self.says(one == other, put_alike(showing, aside, beside))
                    # Two clear asides put alike just if they divide all things into the same lots.
                    self.says(lots(aside) == lots(beside), put_alike(showing, aside, beside))
                    unlike = [(thing, worth) for thing, row in enumerate(one) for worth, end in enumerate(row)
                              if end != other[thing][worth]]
                    self.assertEqual(parting_put(showing, aside, beside), unlike[0] if unlike else None)

    def test_asides_that_are_not_clear(self):
        for showing in SHOWINGS:
            for aside in asides(showing):
                if slow_puts(showing, aside) is None:
                    good = tuple(range(len(aside)))
                    self.says(False, put_alike(showing, aside, good))
                    self.says(False, put_alike(showing, good, aside))
                    self.says(False, put_alike(showing, aside, aside))
                    self.refused(InvalidAside, parting_put, showing, aside, good)
                    self.refused(InvalidAside, parting_put, showing, good, aside)

    def test_no_things_and_no_worths(self):
        for many in (0, 3, 12):
            self.assertEqual([tidy_aside((many, ()), ()), puts_kept((many, ()), ()), serves((many, ()), ()),
                              serving_clash((many, ()), ()), put_alike((many, ()), (), ()), parting_put((many, ()), (), ())],
                             [(), (), True, None, True, None])

    def test_greatest(self):
        showing = (10, tuple(thing % 10 for thing in range(40)))
        aside = tuple(thing // 10 for thing in range(40))
        self.says(True, serves(showing, aside))
        self.assertEqual(puts_kept(showing, aside), tuple(tuple(10 * (thing // 10) + worth for worth in range(10))
                                                          for thing in range(40)))


class Errors(Asking):
    def test_order(self):
        for value in [(13, ()), (2, [0]), (2, (2,))] + [value for value in odd_values() if value != (0, ())]:
            self.refused(InvalidShowing, tidy_aside, value, None)
            self.refused(InvalidShowing, puts_kept, value, None)
            self.refused(InvalidShowing, serves, value, None)
            self.refused(InvalidShowing, serving_clash, value, None)
            self.refused(InvalidShowing, is_serving_clash, value, None, None)
            self.refused(InvalidShowing, put_alike, value, None, None)
            self.refused(InvalidShowing, parting_put, value, None, None)
        bad = [(0, 1, 1), (0, 1, 1, 1, 1), (0, 1, 1, 40), (0, 1, 1, -1), [0, 1, 1, 1], (0, 1, 1, True), (0, 1, 1, None)]
        for value in bad + odd_values() + list(spoiled(Q)):
            self.refused(InvalidAside, tidy_aside, G, value)
            self.refused(InvalidAside, puts_kept, G, value)
            self.refused(InvalidAside, serves, G, value)
            self.refused(InvalidAside, serving_clash, G, value)
            self.refused(InvalidAside, is_serving_clash, G, value, None)
            self.refused(InvalidAside, put_alike, G, value, Q)
            self.refused(InvalidAside, put_alike, G, Q, value)
            self.refused(InvalidAside, parting_put, G, value, Q)
            self.refused(InvalidAside, parting_put, G, Q, value)
        # What is no aside is refused even where the other one is not clear.
        self.refused(InvalidAside, put_alike, G, (0, 0, 0, 0), None)


if __name__ == "__main__":
    unittest.main()
