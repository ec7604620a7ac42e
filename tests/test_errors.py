import unittest

from puttingback import errors
from tests.asking import Asking

NAMES = """InvalidKind InvalidThing InvalidTerm InvalidWorth InvalidPath InvalidNumber InvalidDiagram TooMany InvalidSort
InvalidItem TooFew InvalidItemText InvalidListing InvalidGrid InvalidRules InvalidTold InvalidPair InvalidManner
InvalidShowing InvalidAside InvalidPuts InvalidWishes InvalidCase InvalidLets InvalidKeys InvalidOften InvalidFrame
InvalidLot InvalidColumn InvalidSheet InvalidShown InvalidTest InvalidCut InvalidMachine InvalidSide InvalidLetter
InvalidRow NotServing UnlikeSides Unfitting Failing InvalidHub InvalidSight InvalidNet NotTurning InvalidWay
InvalidVersion InvalidPlace Unlike NoThings InvalidLife InvalidTerms InvalidLeaf InvalidClaim InvalidIndex
NothingToUndo NothingToRedo""".split()


class Errors(Asking):
    def test_base(self):
        self.assertEqual(errors.PutError.__bases__, (ValueError,))

    def test_all_are_direct_subclasses(self):
        self.assertEqual(len(NAMES), 57)
        for name in NAMES:
            self.assertEqual(getattr(errors, name).__bases__, (errors.PutError,), name)
            self.assertEqual(getattr(errors, name).__module__, "puttingback.errors")

    def test_there_are_no_others(self):
        classes = [name for name, value in vars(errors).items() if isinstance(value, type)]
        self.assertEqual(sorted(classes), sorted(NAMES + ["PutError"]))

    def test_attributes(self):
        self.assertEqual(errors.TooMany(4096).limit, 4096)
        self.assertEqual(errors.InvalidItemText(7).at, 7)
        self.assertEqual(str(errors.InvalidKind("why")), "why")


if __name__ == "__main__":
    unittest.main()
