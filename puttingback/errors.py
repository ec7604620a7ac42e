"""The errors of the package."""


class PutError(ValueError):
    """The base class of all errors of this package."""


class InvalidKind(PutError):
    """What should be a kind is none."""


class InvalidThing(PutError):
    """What should be a thing of a kind is none."""


class InvalidTerm(PutError):
    """What should be a term over a kind is none, or not one as asked."""


class InvalidWorth(PutError):
    """What should be a worth of a term is none."""


class InvalidPath(PutError):
    """What should be a path to a term in a term is none."""


class InvalidNumber(PutError):
    """What should be a number of something is none."""


class InvalidDiagram(PutError):
    """What should be a diagram is none, or has no lines."""


class TooMany(PutError):
    """There is more than a limit lets."""

    def __init__(self, limit):
        self.limit = limit


class InvalidSort(PutError):
    """What should be a sort is none."""


class InvalidItem(PutError):
    """What should be an item of a sort is none."""


class TooFew(PutError):
    """A sort has no item with the number of the item led to it."""


class InvalidItemText(PutError):
    """A string is no text of an item, from the sign at an index on."""

    def __init__(self, at):
        self.at = at


class InvalidListing(PutError):
    """What should be a listing is none."""


class InvalidGrid(PutError):
    """What should be a grid for a listing is none."""


class InvalidRules(PutError):
    """What should be a rule row, or a rule, is none."""


class InvalidTold(PutError):
    """What should be told puts is none."""


class InvalidPair(PutError):
    """Two listings do not go together."""


class InvalidManner(PutError):
    """What should be a manner of sides is none."""


class InvalidShowing(PutError):
    """What should be a showing is none."""


class InvalidAside(PutError):
    """What should be an aside is none, or is not clear."""


class InvalidPuts(PutError):
    """What should be puts of a showing is none."""


class InvalidWishes(PutError):
    """What should be a row of wishes is none."""


class InvalidCase(PutError):
    """What should be a case is none."""


class InvalidLets(PutError):
    """What should be lets is none."""


class InvalidKeys(PutError):
    """What should be keys, or fields, is none."""


class InvalidOften(PutError):
    """What should tell how often keys hold does not."""


class InvalidFrame(PutError):
    """What should be a frame is none."""


class InvalidLot(PutError):
    """What should be a lot is none."""


class InvalidColumn(PutError):
    """What should be a column is none, or not one as asked."""


class InvalidSheet(PutError):
    """What should be a sheet is none."""


class InvalidShown(PutError):
    """What should be what may be shown is not."""


class InvalidTest(PutError):
    """What should be a test of columns is none."""


class InvalidCut(PutError):
    """What should be a cut of a frame is none."""


class InvalidMachine(PutError):
    """What should be a machine is none."""


class InvalidSide(PutError):
    """What should tell a side of a machine does not."""


class InvalidLetter(PutError):
    """What should be a letter of a machine is none."""


class InvalidRow(PutError):
    """What should be a row of letters, or of changes, is none."""


class NotServing(PutError):
    """A machine does not serve."""


class UnlikeSides(PutError):
    """Two machines have not the same sides."""


class Unfitting(PutError):
    """Two machines do not fit."""


class Failing(PutError):
    """Two machines fail behind one another."""


class InvalidHub(PutError):
    """What should be a hub is none."""


class InvalidSight(PutError):
    """What should be a sight of a view is none."""


class InvalidNet(PutError):
    """What should be a net is none."""


class NotTurning(PutError):
    """A net is not turning."""


class InvalidWay(PutError):
    """What should be a way of a net is none."""


class InvalidVersion(PutError):
    """What should be the index of a version is none."""


class InvalidPlace(PutError):
    """What should be a place of a net is none."""


class Unlike(PutError):
    """Two nets have not the same versions and ends of steps."""


class NoThings(PutError):
    """A version has no things."""


class InvalidLife(PutError):
    """What should be a life is none."""


class InvalidTerms(PutError):
    """What should be a row of terms is none."""


class InvalidLeaf(PutError):
    """What should be a leaf of a kind is none."""


class InvalidClaim(PutError):
    """What should be a claim is none."""


class InvalidIndex(PutError):
    """What should be the index of a term is none."""


class NothingToUndo(PutError):
    """No deed is left to be taken back."""


class NothingToRedo(PutError):
    """No deed is left to be done again."""
