import unittest

from puttingback.errors import InvalidLeaf, InvalidLife
from puttingback.lives import is_life, life_ends, life_things, spared_deeds, trail_of
from puttingback.showing import put_back
from tests.asking import Asking
from tests.chance import Chance
from tests.lifesamples import B, EIGHTS, GREAT, K, L, S, T, V, lives, slow_through
from tests.samples import at_path, slow_leaves, slow_things
from tests.values import disturbed, odd_values, spoiled

BAD_LIVES = [V[:3], V + ((),), list(V), (13,) + V[1:], (K, (), (0, 0), ()), (K, (S,) * 5, (0, 0), ()), (K, [S], (0, 0), ()), (K, S, (0, 0), ()),
             (K, (S, ("part", "c")), (0, 0), ()), (K, (S,), (0, 3), ()), (K, (S,), [0, 0], ()), (K, (S,), 0, ()), (K, (S,), (0, 0), None),
             (K, (S,), (0, 0), ((0, 0),) * 41), (K, (S,), (0, 0), ((1, 0),)), (K, (S,), (0, 0), ((-1, 0),)), (K, (S,), (0, 0), ((0, 3),)),
             (K, (S,), (0, 0), ((0, -1),)), (K, (S,), (0, 0), ((0,),)), (K, (S,), (0, 0), ((0, 0, 0),)), (K, (S,), (0, 0), ([0, 0],)),
             (K, (S,), (0, 0), [(0, 0)]), (K, (S,), (0, 0), ((True, 0),)), (K, (S,), (0, 0), ((0, False),)), (0, (("whole",),), 0, ()),
             (K, (("whole",),), (0, 0), ((0, 0),)), (K, (("whole",),), (0, 0), ((0, [0, 0]),)), (0, (("whole",),), None, ()), None, 0, ()]


class Examples(Asking):
    def test_as_they_stand(self):
        self.assertEqual([life_things(V), life_ends(V)[2], trail_of(V, (0,)), trail_of(V, (1,)), spared_deeds(V)],
                         [[(0, 0), (1, 0), (1, 1), (1, 1), (0, 1)], ("refused", (0, 1)), (0, 3), (1,), [0, 2]])


class IsLife(Asking):
    def test_lives(self):
        for life in lives(100):
            self.says(True, is_life(life))
        for life in ((K, (S,) * 4, (0, 0), ((3, 0),) * 40), (K, (("whole",),), (0, 0), ((0, (1, 2)),)), (1, (("fixed", 0, 1),), 0, ()),
                     (EIGHTS, (("whole",),), (7, 7, 7), ((0, (0, 0, 0)),))):
            self.says(True, is_life(life))

    def test_others(self):
        for value in BAD_LIVES + odd_values() + list(spoiled((K, (S,), (0, 1), ((0, 1), (0, 0))))):
            self.says(False, is_life(value))

    def test_disturbed(self):
        told = {True: 0, False: 0}
        for life in ((2, (("whole",), ("fixed", 0, 1)), 1, ((0, 1), (1, 0))), ((("a", 2),), (("part", "a"),), (1,), ((0, 1),))):
            for value in disturbed(life):
                found = is_life(value)
                self.assertIs(type(found), bool)
                # What is taken for a life can be gone through; what is none is refused.
                if found:
                    things, ends = slow_through(value)
                    self.assertEqual((life_things(value), life_ends(value)), (things, ends))
                    self.assertTrue(all(type(part) is tuple for part in (value, value[1], value[3])))
                else:
                    self.refused(InvalidLife, life_things, value)
                told[found] += 1
        self.assertGreater(min(told.values()), 10)


class Lives(Asking):
    def test_against_slow_puts(self):
        told = {"refused": 0, "thing": 0, "trails": 0}
        for life in lives(400):
            things, ends = slow_through(life)
            self.assertEqual((life_things(life), life_ends(life)), (things, ends))
            for end, (index, worth), thing in zip(ends, life[3], things):
                self.assertEqual(put_back(life[0], life[1][index], thing, worth), end)
                told[end[0]] += 1
            for leaf in slow_leaves(life[0]):
                trail = tuple(at for at in range(len(ends)) if at_path(things[at], leaf) != at_path(things[at + 1], leaf))
                self.assertEqual(trail_of(life, leaf), trail)
                told["trails"] += len(trail) > 1
        self.assertGreater(min(told.values()), 50)

    def test_spared_deeds(self):
        told = {"same end, other refused": 0, "spared": 0, "refused spared": 0, "not": 0}
        for life in lives(500, 8):
            things, ends = slow_through(life)
            spared = []
            for index in range(len(ends)):
                without = life[:3] + (life[3][:index] + life[3][index + 1:],)
                other_things, other_ends = slow_through(without)
                words = [end[0] for at, end in enumerate(ends) if at != index]
                same = words == [end[0] for end in other_ends]
                if other_things[-1] == things[-1] and same:
                    spared.append(index)
                    told["refused spared" if ends[index][0] == "refused" else "spared"] += 1
                else:
                    told["not" if same else "same end, other refused"] += other_things[-1] == things[-1] or same
            self.assertEqual(spared_deeds(life), spared)
        self.assertGreater(min(told.values()), 0, told)
        self.assertGreater(min(told["spared"], told["refused spared"], told["not"]), 50)

    def test_other_deeds_must_be_refused_as_before(self):
        # All come to the same last thing, but without the first deed the second one is refused, or is so no more.
        terms = (S, B, ("whole",))
        self.assertEqual(spared_deeds((K, terms, (0, 0), ((1, 1), (0, 1), (2, (0, 0))))), [1])
        self.assertEqual(spared_deeds((K, terms, (0, 1), ((1, 0), (0, 1), (2, (0, 0))))), [1, 2])
        self.assertEqual(spared_deeds((K, terms, (0, 0), ((0, 1), (1, 1), (2, (0, 0))))), [0, 1])

    def test_no_deeds(self):
        life = (K, (S,), (1, 2), ())
        self.assertEqual([life_things(life), life_ends(life), trail_of(life, (0,)), spared_deeds(life)], [[(1, 2)], [], (), []])

    def test_lists_are_new(self):
        life_things(V).append(0)
        life_ends(V).clear()
        spared_deeds(V).append(7)
        self.assertEqual((len(life_things(V)), len(life_ends(V)), spared_deeds(V)), (5, 4, [0, 2]))

    def test_greatest(self):
        chance = Chance(5)
        for terms in ((GREAT,) * 4, (("whole",), GREAT, ("part", "c"), ("fixed", 0, 1))):
            worths = [slow_things(EIGHTS) if term == ("whole",) else [0] if term[0] == "fixed" else range(8) for term in terms]
            deeds = [(index, chance.one_of(worths[index])) for index in chance.numbers(40, 4)]
            life = (EIGHTS, terms, (1, 2, 3), tuple(deeds))
            things, ends = slow_through(life)
            self.assertEqual((life_things(life), life_ends(life)), (things, ends))
            self.assertTrue(set(spared_deeds(life)) <= set(range(40)))


class Errors(Asking):
    def test_order(self):
        for value in BAD_LIVES + odd_values():
            for function in (life_things, life_ends, spared_deeds):
                self.refused(InvalidLife, function, value)
            self.refused(InvalidLife, trail_of, value, None)
            self.refused(InvalidLife, trail_of, value, ())
        for value in [(2,), (-1,), (0, 0), 0, "0", None, [0], (True,), (False,), ("a",)] + [one for one in odd_values() if one != (0,)]:
            self.refused(InvalidLeaf, trail_of, V, value)
        self.refused(InvalidLeaf, trail_of, (L, (T,), ((0, 0), 0), ()), (0,))
        self.refused(InvalidLeaf, trail_of, (3, (("whole",),), 0, ()), (0,))
        self.assertEqual(trail_of((3, (("whole",),), 0, ((0, 1),)), ()), (0,))
        self.assertEqual(B, ("part", "b"))


if __name__ == "__main__":
    unittest.main()
