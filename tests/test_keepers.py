import unittest

from puttingback.errors import (InvalidIndex, InvalidKind, InvalidTerms, InvalidThing, InvalidWorth, NothingToRedo, NothingToUndo,
                                PutError)
from puttingback.keepers import Keeper
from puttingback.lives import is_life, life_ends, life_things
from tests.asking import Asking
from tests.chance import Chance
from tests.lifesamples import B, EIGHTS, GREAT, K, S, all_deeds, rows_of_terms
from tests.samples import slow_put, slow_shown
from tests.test_roads import BAD_TERMS
from tests.values import odd_values


class Stop(Exception):
    """An action ends with this."""


class Model:
    """What a keeper should tell: all deeds that stand, and those taken back, gone through anew each time."""

    def __init__(self, kind, terms, thing):
        self.kind, self.terms, self.first = kind, terms, thing
        self.deeds, self.undone = [], []

    def things(self):
        """Return all things, and what the puts come to."""
        things, ends = [self.first], []
        for index, worth in self.deeds:
            ends.append(slow_put(self.kind, self.terms[index], things[-1], worth))
            things.append(ends[-1][1] if ends[-1][0] == "thing" else things[-1])
        return things, ends

    def put(self, deed):
        self.deeds.append(deed)
        self.undone = []
        return self.things()[1][-1]

    def undo(self):
        self.undone.append(self.deeds.pop())

    def redo(self):
        self.deeds.append(self.undone.pop())


class Examples(Asking):
    def test_as_they_stand(self):
        a = Keeper(K, (S, ("part", "b")), (0, 0))
        self.assertEqual([a.put(0, 2), a.put(0, 1), a.thing, a.worths, len(a), a.undo(), len(a), a.redo(), a.life[3], a == Keeper(K, (S,), (0, 0))],
                         [("thing", (1, 0)), ("refused", (0, 1)), (1, 0), (2, 0), 2, None, 1, None, ((0, 2), (0, 1)), False])


class Keeping(Asking):
    def is_like(self, keeper, model):
        """Hold that a keeper tells what its model does."""
        things, ends = model.things()
        life = (model.kind, model.terms, model.first, tuple(model.deeds))
        self.assertEqual((keeper.life, keeper.thing, len(keeper)), (life, things[-1], len(model.deeds)))
        self.assertEqual(keeper.worths, tuple(slow_shown(model.kind, term, things[-1]) for term in model.terms))
        self.says(True, is_life(keeper.life))
        self.assertEqual((life_things(keeper.life), life_ends(keeper.life)), (things, ends))

    def step(self, chance, keeper, model, told, depth):
        """Do something by chance with a keeper and with its model."""
        word = chance.one_of(("put", "put", "undo", "redo", "attempt", "wrong", "end" if depth else "put"))
        told[word] = told.get(word, 0) + 1
        if word == "put":
            deeds = all_deeds(model.kind, model.terms)
            if len(model.deeds) == 40 and deeds:
                self.too_many(40, keeper.put, *deeds[0])
            elif deeds:
                deed = chance.one_of(deeds)
                came = keeper.put(*deed)
                self.assertEqual(came, model.put(deed))
                told[came[0]] = told.get(came[0], 0) + 1
        elif word == "undo":
            if model.deeds:
                self.assertIsNone(keeper.undo())
                model.undo()
            else:
                self.refused(NothingToUndo, keeper.undo)
        elif word == "redo":
            if model.undone:
                self.assertIsNone(keeper.redo())
                model.redo()
                told["redone"] = told.get("redone", 0) + 1
            else:
                self.refused(NothingToRedo, keeper.redo)
        elif word == "wrong":
            self.refused(InvalidIndex, keeper.put, len(model.terms), None)
            self.refused(InvalidWorth, keeper.put, 0, None)
        elif word == "end":
            raise Stop(depth)
        else:
            self.attempt(chance, keeper, model, told, depth)
        self.is_like(keeper, model)

    def attempt(self, chance, keeper, model, told, depth):
        """Attempt some things by chance, perhaps one within another one."""
        held = list(model.deeds), list(model.undone)
        result, many = object(), chance.below(6)

        def action(given):
            self.assertIs(given, keeper)
            for _ in range(many):
                self.step(chance, keeper, model, told, depth + 1)
            if chance.below(3) == 0:
                keeper.redo() if chance.below(2) else keeper.put(-1, None)
                model.redo()
            return result

        if depth < 3:
            try:
                self.assertIs(keeper.attempt(action), result)
                told["attempted"] = told.get("attempted", 0) + 1
            except (Stop, PutError) as error:
                model.deeds, model.undone = held
                told[type(error).__name__] = told.get(type(error).__name__, 0) + 1

    def test_rows_of_calls(self):
        told = {}
        for seed, (kind, terms) in enumerate(rows_of_terms(120)):
            chance = Chance(seed)
            things = all_deeds(kind, (("whole",),))
            thing = chance.one_of(things)[1]
            keeper, model = Keeper(kind, terms, thing), Model(kind, terms, thing)
            self.is_like(keeper, model)
            for _ in range(20):
                self.step(chance, keeper, model, told, 0)
        self.assertGreater(min(told[word] for word in ("put", "undo", "redo", "redone", "attempted", "Stop", "refused", "thing", "NothingToRedo",
                                                       "InvalidIndex", "wrong")), 30, told)

    def test_redo_is_lost_by_a_put(self):
        keeper = Keeper(K, (S, B), (0, 0))
        for worth in (1, 2, 0):
            keeper.put(1, worth)
        keeper.undo()
        keeper.undo()
        keeper.redo()
        self.assertEqual((keeper.life[3], keeper.thing), (((1, 1), (1, 2)), (0, 2)))
        keeper.undo()
        # Also a put that is refused is one.
        self.assertEqual(keeper.put(0, 2)[0], "refused")
        self.refused(NothingToRedo, keeper.redo)
        self.assertEqual((keeper.life[3], keeper.thing), (((1, 1), (0, 2)), (0, 1)))
        # A put that raises is none.
        keeper.undo()
        self.refused(InvalidWorth, keeper.put, 0, 3)
        self.refused(InvalidIndex, keeper.put, 2, 0)
        keeper.redo()
        self.assertEqual(len(keeper), 2)

    def test_forty_deeds(self):
        keeper = Keeper(K, (S, B), (0, 0))
        for at in range(40):
            keeper.put(1, at % 3)
        self.too_many(40, keeper.put, 1, 0)
        # The limit is told at last.
        self.refused(InvalidIndex, keeper.put, 2, 0)
        self.refused(InvalidWorth, keeper.put, 1, 3)
        self.assertEqual((len(keeper), keeper.thing), (40, (0, 0)))
        keeper.undo()
        self.assertEqual(keeper.put(1, 2), ("thing", (0, 2)))
        self.too_many(40, keeper.put, 1, 0)
        for _ in range(40):
            keeper.undo()
        self.refused(NothingToUndo, keeper.undo)
        for _ in range(40):
            keeper.redo()
        self.refused(NothingToRedo, keeper.redo)
        self.assertEqual((len(keeper), keeper.thing), (40, (0, 2)))
        self.says(True, is_life(keeper.life))

    def test_greatest(self):
        keeper = Keeper(EIGHTS, (GREAT, ("whole",), ("part", "c"), GREAT), (0, 1, 2))
        for at in range(40):
            keeper.put(at % 4, (7, at % 8, 7) if at % 4 == 1 else at % 8)
        self.assertEqual(keeper.thing, life_things(keeper.life)[-1])
        self.assertEqual(keeper.worths, tuple(slow_shown(EIGHTS, term, keeper.thing) for term in keeper.life[1]))


class Attempts(Asking):
    def test_an_error_goes_on_and_all_is_as_before(self):
        for error in (Stop("a"), KeyError(1), StopIteration(), TypeError(), InvalidKind("a"), KeyboardInterrupt(), GeneratorExit()):
            keeper = Keeper(K, (S, B), (0, 0))
            keeper.put(1, 1)
            keeper.put(1, 2)
            keeper.undo()

            def action(given):
                given.undo()
                given.put(1, 0)
                given.put(0, 2)
                raise error

            with self.assertRaises(type(error)) as caught:
                keeper.attempt(action)
            self.assertIs(caught.exception, error)
            self.assertEqual((keeper.life[3], keeper.thing, keeper.worths, len(keeper)), (((1, 1),), (0, 1), (1, 1), 1))
            # What can be done again is as before, and so is what can be taken back.
            keeper.redo()
            self.assertEqual(keeper.thing, (0, 2))
            self.refused(NothingToRedo, keeper.redo)
            keeper.undo()
            keeper.undo()
            self.refused(NothingToUndo, keeper.undo)

    def test_what_is_returned(self):
        keeper = Keeper(K, (S, B), (0, 0))
        for value in (None, False, 0, (), keeper, Stop("not raised")):
            self.assertIs(keeper.attempt(lambda given: value), value)
        self.assertEqual(keeper.attempt(lambda given: given.put(1, 2)), ("thing", (0, 2)))
        self.assertEqual((keeper.thing, len(keeper)), ((0, 2), 1))
        self.assertIsNone(keeper.attempt(Keeper.undo))
        self.assertEqual(len(keeper), 0)

    def test_one_within_another_one(self):
        keeper = Keeper(K, (S, B), (0, 0))

        def inner(given):
            given.put(1, 2)
            given.undo()
            given.undo()
            raise Stop("inner")

        def outer(given):
            given.put(1, 1)
            try:
                given.attempt(inner)
            except Stop:
                pass
            self.assertEqual((given.life[3], given.thing), (((1, 1),), (0, 1)))
            given.put(0, 0)
            return given.attempt(lambda one: one.put(1, 0))

        def failing(given):
            outer(given)
            given.attempt(inner)

        with self.assertRaises(Stop):
            keeper.attempt(failing)
        self.assertEqual((keeper.life[3], keeper.thing), ((), (0, 0)))
        self.refused(NothingToRedo, keeper.redo)
        self.assertEqual(keeper.attempt(outer), ("thing", (keeper.thing[0], 0)))
        self.assertEqual(keeper.life[3], ((1, 1), (0, 0), (1, 0)))

    def test_no_function(self):
        keeper = Keeper(K, (S, B), (0, 0))
        keeper.put(1, 1)
        for value in (None, 3, "a", ()):
            with self.assertRaises(TypeError):
                keeper.attempt(value)
        self.assertEqual(keeper.life[3], ((1, 1),))


class Objects(Asking):
    def test_equality(self):
        def made(*deeds):
            keeper = Keeper(K, (S, B), (0, 0))
            for deed in deeds:
                keeper.put(*deed)
            return keeper

        self.assertEqual(made(), made())
        self.assertEqual(made((1, 1), (0, 2)), made((1, 1), (0, 2)))
        back = made((1, 1), (1, 2))
        back.undo()
        self.assertEqual(back, made((1, 1)))
        self.says(False, back != made((1, 1)))
        self.says(True, back == back)
        # The same thing is no same life.
        for other in (made(), made((1, 2)), made((1, 1), (1, 1)), Keeper(K, (S,), (0, 1)), Keeper(K, (B, S), (0, 0)), Keeper(K, (S, B), (0, 1)),
                      Keeper((("a", 2), ("c", 3)), (("part", "c"),), (0, 0))):
            self.says(False, back == other)
            self.says(True, back != other)
        plain = [value for value in odd_values() if not isinstance(value, Keeper)]
        for other in plain + [back.life, [back], (back,), Keeper, object()]:
            self.says(False, back == other)
            self.says(False, other == back)
            self.says(True, back != other)

    def test_iterating(self):
        keeper = Keeper(K, (S, B), (0, 0))
        keeper.put(1, 1)
        for iterate in (iter, list, tuple, sorted, lambda given: [one for one in given], lambda given: (*given,), lambda given: 0 in given):
            with self.assertRaises(TypeError):
                iterate(keeper)

    def test_methods_are_its_own(self):
        for word in ("put", "undo", "redo", "attempt", "life", "thing", "worths", "__len__", "__eq__", "__init__"):
            self.assertIn(word, vars(Keeper))
        self.assertEqual(Keeper.__bases__, (object,))

    def test_keepers_do_not_share(self):
        one, other = Keeper(K, (S, B), (0, 0)), Keeper(K, (S, B), (0, 0))
        one.put(1, 1)
        self.assertEqual((len(one), len(other), other.thing), (1, 0, (0, 0)))
        life = one.life
        one.put(1, 2)
        one.undo()
        one.undo()
        self.assertEqual(life, (K, (S, B), (0, 0), ((1, 1),)))


class Errors(Asking):
    def test_making(self):
        for value in [13, -1, True, (), [("a", 2)], (("a", 2), ("a", 2)), None]:
            self.refused(InvalidKind, Keeper, value, None, None)
            self.refused(InvalidKind, Keeper, value, (("whole",),), 0)
        for value in BAD_TERMS + odd_values():
            self.refused(InvalidTerms, Keeper, K, value, None)
            self.refused(InvalidTerms, Keeper, K, value, (0, 0))
        for value in [(0, 3), (2, 0), [0, 0], 0, None, (True, 0)] + [value for value in odd_values() if value != (0, 0)]:
            self.refused(InvalidThing, Keeper, K, (S,), value)

    def test_putting(self):
        keeper = Keeper(K, (S, ("whole",)), (0, 0))
        keeper.put(1, (1, 1))
        keeper.undo()
        for value in [2, -1, True, False, "0", (0,)] + odd_values():
            self.refused(InvalidIndex, keeper.put, value, None)
            self.refused(InvalidIndex, keeper.put, value, 0)
        for value in [3, -1, (0, 0), True] + odd_values():
            self.refused(InvalidWorth, keeper.put, 0, value)
        for value in [0, [0, 0], (0, 3), (True, 0)] + [value for value in odd_values() if value != (0, 0)]:
            self.refused(InvalidWorth, keeper.put, 1, value)
        # Nothing of this has changed anything.
        self.assertEqual((keeper.life[3], keeper.thing), ((), (0, 0)))
        keeper.redo()
        self.assertEqual((keeper.life[3], keeper.thing), (((1, (1, 1)),), (1, 1)))

    def test_pairs_of_a_thing_and_of_a_deed_are_not_counted(self):
        keeper = Keeper(EIGHTS, (("whole",),) * 4, (0, 0, 0))
        self.assertEqual(keeper.put(3, (1, 2, 3)), ("thing", (1, 2, 3)))


if __name__ == "__main__":
    unittest.main()
