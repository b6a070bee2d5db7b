"""The errors of the package, each a direct heir of EndError."""


class EndError(ValueError):
    """What every error of the package is caught by."""


class InvalidNumber(EndError):
    """A value that is no number, or no integer where one is asked for."""

    def __init__(self, given):
        self.given = given


class InvalidSizes(EndError):
    """A value that is no list of sizes."""

    def __init__(self, given):
        self.given = given


class InvalidStore(EndError):
    """A value that is no store."""

    def __init__(self, given):
        self.given = given


class InvalidValues(EndError):
    """A value that is no list of values."""

    def __init__(self, given):
        self.given = given


class InvalidLine(EndError):
    """A value that is no line."""

    def __init__(self, given):
        self.given = given


class InvalidSpace(EndError):
    """A value that is no space."""

    def __init__(self, given):
        self.given = given


class InvalidOutcome(EndError):
    """A value that is no outcome."""

    def __init__(self, given):
        self.given = given


class InvalidWeights(EndError):
    """A value that is no list of weights."""

    def __init__(self, given):
        self.given = given


class InvalidLot(EndError):
    """A value that is no lot."""

    def __init__(self, given):
        self.given = given


class InvalidLots(EndError):
    """A value that is no list of lots."""

    def __init__(self, given):
        self.given = given


class InvalidPayoff(EndError):
    """A value that is no payoff."""

    def __init__(self, given):
        self.given = given


class InvalidText(EndError):
    """A value that is no text."""

    def __init__(self, given):
        self.given = given


class InvalidSurrounding(EndError):
    """A value that is no surrounding."""

    def __init__(self, given):
        self.given = given


class InvalidPath(EndError):
    """A value that is no path."""

    def __init__(self, given):
        self.given = given


class InvalidPart(EndError):
    """A value that is no part."""

    def __init__(self, given):
        self.given = given


class InvalidSides(EndError):
    """A value that is no list of sides."""

    def __init__(self, given):
        self.given = given


class InvalidDraws(EndError):
    """A value that is no list of draws."""

    def __init__(self, given):
        self.given = given


class InvalidShare(EndError):
    """A value that is no share."""

    def __init__(self, given):
        self.given = given


class InvalidSteps(EndError):
    """A value that is no number of steps."""

    def __init__(self, given):
        self.given = given


class InvalidRow(EndError):
    """A value that is no row."""

    def __init__(self, given):
        self.given = given


class InvalidPick(EndError):
    """A value that is no pick."""

    def __init__(self, given):
        self.given = given


class InvalidDice(EndError):
    """A value that is no dice."""

    def __init__(self, given):
        self.given = given


class InvalidBlend(EndError):
    """A value that is no blend of picks."""

    def __init__(self, given):
        self.given = given


class InvalidLimits(EndError):
    """A value that is no list of limits."""

    def __init__(self, given):
        self.given = given


class InvalidPairs(EndError):
    """A value that is no list of pairs."""

    def __init__(self, given):
        self.given = given


class InvalidSet(EndError):
    """A value that is no set of stores."""

    def __init__(self, given):
        self.given = given


class InvalidName(EndError):
    """A value that is no name."""

    def __init__(self, given):
        self.given = given


class InvalidOther(EndError):
    """A value that is no other text, or no other name."""

    def __init__(self, given):
        self.given = given


class TooMany(EndError):
    """There is more than the bound allows."""

    def __init__(self, count):
        self.count = count


class Outside(EndError):
    """The lot is no blend of the lots, as the payoff shows."""

    def __init__(self, payoff):
        self.payoff = payoff


class MayGoOn(EndError):
    """The filled surrounding may go on for ever from the store."""

    def __init__(self, store):
        self.store = store


class NoThing(EndError):
    """The bench has nothing under the name."""

    def __init__(self, name):
        self.name = name


class NotBrought(EndError):
    """The lot is not brought, as the payoff and the table show."""

    def __init__(self, payoff, table):
        self.payoff = payoff
        self.table = table


class MayStay(EndError):
    """The way leads to rows among which one may stay."""

    def __init__(self, way, rows):
        self.way = way
        self.rows = rows


class TwoLots(EndError):
    """Two picks bring different lots."""

    def __init__(self, one, other):
        self.one = one
        self.other = other


class NotKept(EndError):
    """No blend keeps the limits, as the fees and the table show."""

    def __init__(self, fees, table):
        self.fees = fees
        self.table = table


class NoCommon(EndError):
    """The pairs have no common lot, as the payoffs and the tables show."""

    def __init__(self, payoffs, tables):
        self.payoffs = payoffs
        self.tables = tables


class ByZero(EndError):
    """A quotient by 0."""


class NothingToUndo(EndError):
    """There is no deed to take back."""


class NothingToRedo(EndError):
    """There is no deed to do again."""
