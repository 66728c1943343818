import unittest

from tests.helper import Case
from witnesslog import errors

WITH = {"BadDerivation": "index", "BadLog": "index", "BadPaper": "index", "BadText": "line", "Clashes": "number",
        "IsAssumed": "literal", "IsReason": "number", "NotFree": "literal", "TooMany": "most"}

WITHOUT = """BadBound BadChoices BadCount BadExchange BadExchanges BadFilling BadFillings BadGoal BadGroups BadGuide
BadHands BadId BadJudge BadLeast BadLevel BadLiteral BadLiterals BadLoads BadLot BadMany BadMost BadNamed BadNumber
BadOrder BadOther BadPicks BadPlan BadPrice BadPrices BadProblem BadRow BadRows BadSpot BadStep BadSum BadTerms
BadTrail BadVariable BadWays BadWitness Closed NoClash NoLevel NotBySums NotClosed NotEliminated NotEqual NotLeaning
NotShort NotSound NotWhole""".split()


class ErrorsTest(Case):
    def test_places(self):
        self.assertEqual(errors.WitnessError.__bases__, (ValueError,))
        for name in list(WITH) + WITHOUT:
            self.assertEqual(getattr(errors, name).__bases__, (errors.WitnessError,), name)

    def test_no_others(self):
        found = [name for name, thing in vars(errors).items() if isinstance(thing, type)]
        self.assertEqual(sorted(found), sorted(list(WITH) + WITHOUT + ["WitnessError"]))

    def test_attributes_by_position_and_by_name(self):
        for name, attribute in WITH.items():
            make = getattr(errors, name)
            for thing in (0, 7, True, None, "text", [1], {"a": (1,)}, make):
                self.assertIs(getattr(make(thing), attribute), thing)
                self.assertIs(getattr(make(**{attribute: thing}), attribute), thing)
                self.assertEqual(list(vars(make(thing))), [attribute])

    def test_without_attributes(self):
        for name in WITHOUT:
            error = getattr(errors, name)("any text")
            self.assertEqual(str(error), "any text")
            self.assertEqual(vars(error), {})


if __name__ == "__main__":
    unittest.main()
