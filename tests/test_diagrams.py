import unittest

from puttingback.diagrams import asked_leaves, diagram_shown, is_diagram, least_diagram, unlike_thing
from puttingback.errors import InvalidDiagram, InvalidKind, InvalidTerm, InvalidThing
from tests.asking import Asking
from tests.samples import A_B as K
from tests.samples import K_C as L
from tests.samples import KINDS, at_path, good_terms, slow_kind, slow_leaves, slow_shown, slow_things
from tests.values import disturbed, odd_values, spoiled

S = ("sum", ("then", ("part", "a"), ("table", (0, 2), 3)), ("part", "b"))
T = ("test", ("part", "c"), (1,), ("then", ("part", "k"), S), ("fixed", 0, 3))
W = ("whole",)
NINE = tuple((word, tuple((inner, 2) for inner in "abc")) for word in "xyz")


def told(diagram, thing):
    """Return what a diagram tells a thing."""
    line = diagram[-1]
    while line[0] == "ask":
        line = diagram[line[2][at_path(thing, line[1])]]
    return line[1]


def left_behind(diagram):
    """Return the indices of lines in the order in which they are first left behind."""
    order = []

    def go(index):
        if index not in order:
            for at in diagram[index][2] if diagram[index][0] == "ask" else ():
                go(at)
            if index not in order:
                order.append(index)

    go(len(diagram) - 1)
    return order


def ascends(diagram, index, leaf):
    """Return whether all ways from a line on ask ascending leaves, all behind a leaf."""
    line = diagram[index]
    if line[0] == "show":
        return True
    return (leaf is None or leaf < line[1]) and all(ascends(diagram, at, line[1]) for at in line[2])


class Examples(Asking):
    def test_as_they_stand(self):
        self.says(True, least_diagram(K, S) == (("show", 0), ("show", 1), ("show", 2), ("ask", (1,), (0, 1, 2)),
                                                ("ask", (1,), (2, 0, 1)), ("ask", (0,), (3, 4))))
        self.assertEqual([diagram_shown(K, 3, least_diagram(K, S), (1, 1)), unlike_thing(K, S, ("part", "b")),
                          asked_leaves(L, T), least_diagram(K, ("fixed", 4, 5))],
                         [0, (1, 0), [(0, 0), (0, 1), (1,)], (("show", 4),)])


class LeastDiagrams(Asking):
    def test_what_makes_them_least(self):
        for kind in KINDS:
            things, leaves = slow_things(kind), slow_leaves(kind)
            for term in good_terms(kind):
                diagram = least_diagram(kind, term)
                self.says(True, is_diagram(kind, slow_kind(kind, term), diagram))
                if not things:
                    self.assertEqual(diagram, ())
                    continue
                self.assertEqual([told(diagram, thing) for thing in things],
                                 [slow_shown(kind, term, thing) for thing in things])
                self.assertEqual(left_behind(diagram), list(range(len(diagram))))
                self.assertEqual(len(set(diagram)), len(diagram))
                asks = [line for line in diagram if line[0] == "ask"]
                self.assertTrue(all(len(set(line[2])) > 1 for line in asks))
                self.assertTrue(ascends(diagram, len(diagram) - 1, None))
                self.assertEqual(asked_leaves(kind, term), [leaf for leaf in leaves if leaf in {a[1] for a in asks}])

    def test_greatest(self):
        diagram = least_diagram(NINE, W)
        self.assertEqual(len(diagram), 512 + 511)
        # It is handed in with more lines than a diagram may have.
        self.says(False, is_diagram(NINE, NINE, diagram))
        self.refused(InvalidDiagram, diagram_shown, NINE, NINE, diagram, ((0,) * 3,) * 3)
        self.assertEqual(asked_leaves(NINE, W), slow_leaves(NINE))

    def test_leaves_with_one_integer(self):
        ones = tuple((word, 1) for word in "abcdef")
        wide = tuple((word, tuple((inner, ones) for inner in "uvwxyz")) for word in "abcde") + (("f", 2),)
        self.assertEqual(least_diagram(wide, ("part", "f")), (("show", 0), ("show", 1), ("ask", (5,), (0, 1))))

    def test_new_lists(self):
        asked_leaves(K, S).append(None)
        self.assertEqual(asked_leaves(K, S), [(0,), (1,)])


class Diagrams(Asking):
    def test_lines(self):
        good = [(), (("show", 0),), (("show", 2), ("show", 2)), (("show", 1), ("ask", (0,), (0, 0))),
                (("show", 1), ("ask", (1,), (0, 0, 0)), ("ask", (0,), (1, 0)), ("ask", (0,), (2, 2)))]
        bad = [[], (("show", 3),), (("show", -1),), (("show", True),), (("show",),), (("show", 0, 0),), ("show", 0),
               (["show", 0],), (("show", 1), ("ask", (0,), (0, 1))), (("show", 1), ("ask", (0,), (0, -1))),
               (("show", 1), ("ask", (0,), (0,))), (("show", 1), ("ask", (0,), (0, 0, 0))), (("tell", 1),),
               (("show", 1), ("ask", (0,), [0, 0])), (("show", 1), ("ask", [0], (0, 0))), (("ask", (0,), (0, 0)),),
               (("show", 1), ("ask", (2,), (0, 0))), (("show", 1), ("ask", (), (0, 0))), (("show", (1,)),),
               (("show", 1), ("ask", (False,), (0, 0))), (("show", 1), ("ask", (0,), (False, 0))),
               (("show", 1), ("ask", 0, (0, 0))), (("show", 1), ("show", (0,), (0, 0))), (("ask", (0,)),)]
        for value in good:
            self.says(True, is_diagram(K, 3, value))
        for value in bad:
            self.says(False, is_diagram(K, 3, value))
            self.refused(InvalidDiagram, diagram_shown, K, 3, value, None)
        self.says(False, is_diagram(L, 3, (("show", 0), ("ask", (0,), (0, 0)))))
        self.says(True, is_diagram(L, (("a", 2),), (("show", (0,)), ("ask", (0, 1), (0, 0, 0)))))

    def test_1000_lines(self):
        self.says(True, is_diagram(K, 3, (("show", 0),) * 1000))
        self.says(False, is_diagram(K, 3, (("show", 0),) * 1001))

    def test_kinds_without_things(self):
        self.says(True, is_diagram(0, 3, (("ask", (), ()),)))
        self.says(False, is_diagram(3, 0, (("show", 0),)))
        self.says(False, is_diagram(3, 0, (("ask", (), ()),)))
        self.says(True, is_diagram(0, 0, ()))
        self.refused(InvalidThing, diagram_shown, 0, 3, (("ask", (), ()),), 0)

    def test_not_least_ones_tell_things(self):
        diagram = (("show", 2), ("show", 0), ("ask", (1,), (0, 1, 0)), ("ask", (0,), (2, 1)), ("ask", (1,), (3, 3, 2)))
        self.assertEqual([diagram_shown(K, 3, diagram, thing) for thing in slow_things(K)], [2, 0, 2, 0, 0, 2])
        self.assertEqual([diagram_shown(K, 3, diagram[:4], thing) for thing in slow_things(K)], [2, 0, 2, 0, 0, 0])

    def test_any_values(self):
        diagram = least_diagram(K, S)
        for value in odd_values():
            self.says(value == (), is_diagram(K, 3, value))
        for value in spoiled(diagram):
            self.says(False, is_diagram(K, 3, value))
        for value in disturbed(diagram):
            self.assertIn(is_diagram(K, 3, value), (True, False))


class Unlike(Asking):
    def test_first_thing(self):
        for kind in KINDS:
            terms = good_terms(kind, 12)[::2]
            rows = [[slow_shown(kind, term, thing) for thing in slow_things(kind)] for term in terms]
            for one, row in zip(terms, rows):
                for other, other_row in zip(terms, rows):
                    unlike = [thing for thing, a, b in zip(slow_things(kind), row, other_row) if a != b]
                    self.assertEqual(unlike_thing(kind, one, other), unlike[0] if unlike else None)

    def test_of_whatever_kinds(self):
        self.assertEqual(unlike_thing(3, W, ("table", (0, 1, 2), 12)), None)
        self.assertEqual(unlike_thing(3, W, ("parts", (("a", W),))), 0)


class Errors(Asking):
    def test_order(self):
        for kind in (None, True, 13, (), [("a", 2)]):
            self.refused(InvalidKind, least_diagram, kind, None)
            self.refused(InvalidKind, asked_leaves, kind, None)
            self.refused(InvalidKind, unlike_thing, kind, None, None)
            self.refused(InvalidKind, is_diagram, kind, 3, ())
            self.refused(InvalidKind, is_diagram, K, kind, ())
            self.refused(InvalidKind, diagram_shown, K, kind, None, None)
            self.refused(InvalidKind, diagram_shown, kind, 3, None, None)
        for term in (None, True, (), ["whole"], ("part", "c")):
            self.refused(InvalidTerm, least_diagram, K, term)
            self.refused(InvalidTerm, asked_leaves, K, term)
            self.refused(InvalidTerm, unlike_thing, K, S, term)
            self.refused(InvalidTerm, unlike_thing, K, term, S)
        self.refused(InvalidDiagram, diagram_shown, K, 3, (), None)
        self.refused(InvalidDiagram, diagram_shown, 0, 3, (), 0)
        for thing in (None, (2, 0), [0, 0], (True, 0)):
            self.refused(InvalidThing, diagram_shown, K, 3, least_diagram(K, S), thing)


if __name__ == "__main__":
    unittest.main()
