"""All errors of the package."""


class WitnessError(ValueError):
    """What all errors of the package are."""


class BadBound(WitnessError):
    pass


class BadChoices(WitnessError):
    pass


class BadCount(WitnessError):
    pass


class BadDerivation(WitnessError):
    """No derivation: index is that of the first instruction that cannot be done."""

    def __init__(self, index):
        self.index = index


class BadExchange(WitnessError):
    pass


class BadExchanges(WitnessError):
    pass


class BadFilling(WitnessError):
    pass


class BadFillings(WitnessError):
    pass


class BadGoal(WitnessError):
    pass


class BadGroups(WitnessError):
    pass


class BadGuide(WitnessError):
    pass


class BadHands(WitnessError):
    pass


class BadId(WitnessError):
    pass


class BadJudge(WitnessError):
    pass


class BadLeast(WitnessError):
    pass


class BadLevel(WitnessError):
    pass


class BadLiteral(WitnessError):
    pass


class BadLiterals(WitnessError):
    pass


class BadLoads(WitnessError):
    pass


class BadLog(WitnessError):
    """No log: index is that of the first step that is not let by."""

    def __init__(self, index):
        self.index = index


class BadLot(WitnessError):
    pass


class BadMany(WitnessError):
    pass


class BadMost(WitnessError):
    pass


class BadNamed(WitnessError):
    pass


class BadNumber(WitnessError):
    pass


class BadOrder(WitnessError):
    pass


class BadOther(WitnessError):
    pass


class BadPaper(WitnessError):
    """No paper: index is that of the first derivation that has no end."""

    def __init__(self, index):
        self.index = index


class BadPicks(WitnessError):
    pass


class BadPlan(WitnessError):
    pass


class BadPrice(WitnessError):
    pass


class BadPrices(WitnessError):
    pass


class BadProblem(WitnessError):
    pass


class BadRow(WitnessError):
    pass


class BadRows(WitnessError):
    pass


class BadSpot(WitnessError):
    pass


class BadStep(WitnessError):
    pass


class BadSum(WitnessError):
    pass


class BadTerms(WitnessError):
    pass


class BadText(WitnessError):
    """No text of this kind: line is the number of the first line that cannot stand there."""

    def __init__(self, line):
        self.line = line


class BadTrail(WitnessError):
    pass


class BadVariable(WitnessError):
    pass


class BadWays(WitnessError):
    pass


class BadWitness(WitnessError):
    pass


class Clashes(WitnessError):
    """There is a clash: number is the id of the row that bars."""

    def __init__(self, number):
        self.number = number


class Closed(WitnessError):
    pass


class IsAssumed(WitnessError):
    """The variable has an assumed literal: literal is that one."""

    def __init__(self, literal):
        self.literal = literal


class IsReason(WitnessError):
    """The row with the id number is needed as a reason."""

    def __init__(self, number):
        self.number = number


class NoClash(WitnessError):
    pass


class NoLevel(WitnessError):
    pass


class NotBySums(WitnessError):
    pass


class NotClosed(WitnessError):
    pass


class NotEliminated(WitnessError):
    pass


class NotEqual(WitnessError):
    pass


class NotFree(WitnessError):
    """literal or its opposite is on the trail."""

    def __init__(self, literal):
        self.literal = literal


class NotLeaning(WitnessError):
    pass


class NotShort(WitnessError):
    pass


class NotSound(WitnessError):
    pass


class NotWhole(WitnessError):
    pass


class TooMany(WitnessError):
    """There are more than most."""

    def __init__(self, most):
        self.most = most
