"""What holds for every function: how parameters are passed and checked, and what becomes of what is passed."""
import copy
import importlib
import inspect
from itertools import combinations

from tests import helper
from tests.helper import Case
from tests.test_language import INTERFACE
from witnesslog import errors
from witnesslog.desk import Desk
from witnesslog.judge import Judge
from witnesslog.problems import Problem
from witnesslog.seeking import Search

ROW = (((2, 1), (3, -2)), 4)
PAIR = [(((1, 1), (1, 2)), 1), (((1, 1), (1, -2)), 1)]
ORDER = ((1, -2), ((((2, -1), (1, -2), (2, 3), (1, 4)), 3),))
SUMS = [("row", 0), ("row", 1), ("sum",), ("row", -2), ("sum",)]
PROBLEM = Problem(3, [ROW], (((1, 1),), 0))
LOG = [("order", ORDER, {("along", 0): SUMS}), ("plan", (1, 0, 1)), ("derive", [("row", 1)]),
       ("refute", ROW, [("row", 1), ("row", -1), ("sum",)])]
JUDGE = Judge(PROBLEM)
JUDGE.step(("derive", [("row", 1), ("literal", 1), ("sum",)]))
EQUAL = Judge(Problem(3, [(((1, -1), (1, 2)), 1), (((1, 1), (1, -2)), 1), ROW], ((), 0)))
ALIKE = Problem(3, [(((1, 1), (1, 2)), 1)], (((2, 1), (2, 2)), 0))
HALVED = [("row", 0), ("row", 1), ("sum",), ("divided", 2)]
RIGHT = {
    "many": 3, "thing": None, "sums": [(1, 1), (-2, -3)], "bound": 1, "row": ROW, "filling": (0, 1, 1), "one": ROW,
    "other": ROW, "literal": -2, "rows": [ROW, (((1, 1), (1, -2)), 1)], "witness": (2, -1, 3), "exchange": (2, -1, 3),
    "price": (((1, 1),), 0), "problem": PROBLEM, "number": 2,
    "named": PAIR, "derivation": HALVED,
    "paper": (HALVED, [("row", 2), ("times", 2)]), "goal": (((1, 1),), 1), "literals": [-1, 3], "terms": ((1, 1),),
    "picks": [3, 1], "choices": [-1, 3], "trail": ((1, 0), (3, None)), "level": 1, "spot": 0,
    "order": ORDER, "first": (0, 1, 0), "second": (1, 0, 0), "several": [(1, 1, 0), (0, 1, 0), (0, 0, 1)],
    "start": (1, 1, 1), "known": {2: ROW, 1: PAIR[0]}, "core": {2: ROW, 1: PAIR[0]}, "goals": {"b": ROW, "a": PAIR[1]},
    "judge": JUDGE, "log": LOG, "row_id": 1, "variable": 3, "holes": 2, "plan": (1, 0, 1), "prices": [0, 2, 2],
    "least": 2, "exchanges": [(2, -1, 3)], "loads": [3, 2, 1], "count": 3, "most": 4,
    "guide": [-1, "restart", ("forget", 1)], "lot": (-1, 3), "assumed": (-1, 3),
    "groups": [[3, 1], [2, 2, 5]], "ways": ["above", "below"],
    "hands": [(["above"], [1, ("forget", 1)], 2), ([], [], 1)],
}
# Where a parameter of the same name means another thing.
RIGHT_OF = {
    "behind": {"one": (2, -1, 3), "other": ("yes", 1, -1)},
    "nearest": {"filling": (1, 0, 0)},
    "clause_of": {"literals": [-1]},
    "resolved": {"clash": PAIR[1], "reason": PAIR[0], "literals": [-1], "literal": 2},
    "back_level": {"rows": PAIR, "trail": ((-1, None), (2, 0)), "row": PAIR[1]},
    "gone_back": {"rows": PAIR, "trail": ((-1, None), (2, 0)), "row": PAIR[1]},
    "learned": {"rows": PAIR, "trail": ((-1, None), (2, 0))},
    "shortened": {"rows": PAIR, "row": PAIR[1]},
    "settled": {"rows": PAIR},
    "rows_at": {"first": (2, "yes", 3), "second": (1, 2, "no")},
    "soundness": {"order": ORDER},
    "both": {"one": ORDER, "other": ((-1, 3), ORDER[1])},
    "exchange_of": {"one": 1, "other": -3},
    "is_preferred": {"one": 1, "other": -3},
    "is_plainly_preferred": {"one": 1, "other": -3},
    "exchanged_steps": {"judge": EQUAL, "literal": 1, "other": 2},
    "generators": {"exchanges": [(2, -1, 3), (-1, -2, 3), (1, 2, 3), (-2, 1, 3)]},
    "lots": {"problem": ALIKE, "exchanges": [(2, 1, 3), (2, 1, -3)]},
    "kept_plans": {"problem": ALIKE, "exchange": (2, 1, -3)},
    "firsts": {"problem": ALIKE, "exchanges": [(2, 1, 3), (2, 1, -3)]},
    "likeness_steps": {"problem": ALIKE, "exchanges": [(2, 1, 3), (2, 1, -3)]},
    "counting": {"judge": EQUAL, "number": 1},
    "plain": {"problem": PROBLEM, "log": LOG + [("follow", ROW)]},
    "problem_of": {"text": "many 2\nrow 1*1 3*-2 >= 4\nprice -1 : 2*2\n"},
    "log_of": {"text": "witness 1 1*1 >= 1 : yes 2\ngoal own : row:-2\nnew\n"},
    "begun": {"text": "witness 1 1*1 >= 1 : yes 2\ngoal own : row:-2\nnew\nplan"},
    "paper_of": {"text": "derive row:1\nderive row:2 sum\n"},
}
WRONG = {
    "many": 0, "sums": {}, "bound": True, "row": list(ROW), "filling": [0, 1, 1], "one": None, "other": None,
    "literal": 0, "rows": {}, "witness": (1, 1, 0), "exchange": (1, 1, 2), "price": None, "problem": 3, "number": True,
    "named": {True: ROW}, "derivation": {}, "paper": [HALVED], "goal": None, "literals": [1, -1], "terms": [(1, 1)],
    "picks": [True], "choices": [0], "trail": [(1, 0)], "level": True, "spot": 1, "clash": None, "reason": 1,
    "order": [ORDER], "first": (True, 1, 0), "second": ("no", 3), "several": [None], "start": (0, 1, True),
    "known": [ROW], "core": {True: ROW}, "goals": {1: None}, "judge": PROBLEM, "log": [None], "row_id": True,
    "variable": 0, "holes": True, "plan": (1, 1, 1), "prices": [2, 1], "least": None,
    "exchanges": [(1, 1, 2)], "loads": [0], "count": True, "most": -1, "guide": [True], "lot": [1], "assumed": (True,),
    "groups": [[1]], "ways": ["up"], "hands": [([], [], 0)], "text": None,
}
ERRORS = {
    "many": errors.BadMany, "sums": errors.BadSum, "bound": errors.BadBound, "row": errors.BadRow,
    "filling": errors.BadFilling, "literal": errors.BadLiteral, "rows": errors.BadRows, "witness": errors.BadWitness,
    "exchange": errors.BadExchange, "price": errors.BadPrice, "problem": errors.BadProblem, "number": errors.BadNumber,
    "named": errors.BadNamed, "derivation": errors.BadDerivation, "paper": errors.BadPaper, "goal": errors.BadGoal,
    "literals": errors.BadLiterals, "terms": errors.BadTerms, "picks": errors.BadPicks, "choices": errors.BadChoices,
    "trail": errors.BadTrail, "level": errors.BadLevel, "spot": errors.BadSpot, "clash": errors.BadRow,
    "reason": errors.BadRow, "order": errors.BadOrder, "first": errors.BadFilling, "second": errors.BadFilling,
    "several": errors.BadFillings, "start": errors.BadFilling, "known": errors.BadNamed, "core": errors.BadNamed,
    "goals": errors.BadNamed, "judge": errors.BadJudge, "log": errors.BadLog, "row_id": errors.BadId,
    "variable": errors.BadVariable, "holes": errors.BadNumber, "plan": errors.BadPlan, "prices": errors.BadPrices,
    "least": errors.BadLeast, "exchanges": errors.BadExchanges, "loads": errors.BadLoads, "count": errors.BadCount,
    "most": errors.BadMost, "guide": errors.BadGuide, "lot": errors.BadLot, "assumed": errors.BadLot,
    "groups": errors.BadGroups, "ways": errors.BadWays, "hands": errors.BadHands, "text": errors.BadText,
}


ERRORS_OF = {
    "behind": {"one": errors.BadWitness, "other": errors.BadWitness},
    "covers": {"one": errors.BadRow, "other": errors.BadRow},
    "both": {"one": errors.BadOrder, "other": errors.BadOrder},
    "rows_at": {"first": errors.BadWitness, "second": errors.BadWitness},
    "exchange_of": {"one": errors.BadLiteral, "other": errors.BadOther},
    "is_preferred": {"one": errors.BadLiteral, "other": errors.BadOther},
    "is_plainly_preferred": {"one": errors.BadLiteral, "other": errors.BadOther},
    "exchanged_steps": {"other": errors.BadLiteral},
    "counting": {"number": errors.BadId},
}


def error_of(name, parameter):
    told = {**ERRORS, **ERRORS_OF.get(name, {})}
    return told[parameter]


def functions():
    for module, lines in INTERFACE:
        loaded = importlib.import_module("witnesslog." + module)
        for line in lines:
            yield line.split()[0], getattr(loaded, line.split()[0])


def right_values(name, call):
    told = {**RIGHT, **RIGHT_OF.get(name, {})}
    return {parameter: copy.deepcopy(told[parameter]) for parameter in inspect.signature(call).parameters}


def shown(thing):
    if isinstance(thing, Problem):
        return repr((thing.many, thing.rows, thing.price))
    if isinstance(thing, Judge):
        return repr((shown(thing.problem), thing.many, thing.best, thing.core(), thing.derived(), thing.order(),
                     thing.log(), thing.gone, thing.next_id))
    if isinstance(thing, Desk):
        return repr((thing.many, thing.price, thing.deeds()))
    if isinstance(thing, Search):
        return repr((thing.choices(), thing.trail(), thing.reasons(), shown(thing.judge())))
    if isinstance(thing, (list, tuple)):
        return repr((type(thing), [shown(item) for item in thing]))
    return repr(thing)


def spoil(thing):
    """Change all lists and dicts in thing."""
    if isinstance(thing, (list, tuple)):
        for item in thing:
            spoil(item)
    if isinstance(thing, (list, dict)):
        thing.clear()


class ConventionsTest(Case):
    def each(self):
        for name, call in functions():
            with self.subTest(name):
                yield name, call

    def test_by_position_and_by_name(self):
        for name, call in self.each():
            told = right_values(name, call)
            self.assertEqual(shown(call(*told.values())), shown(call(**told)))

    def test_first_wrong_parameter_counts(self):
        for name, call in self.each():
            told = right_values(name, call)
            refused = [parameter for parameter in told if parameter != "thing"]
            for count in (1, 2, max(1, len(refused))):
                for wrong in combinations(refused, count):
                    spoilt = {**told, **{parameter: copy.deepcopy(WRONG[parameter]) for parameter in wrong}}
                    with self.assertRaises(errors.WitnessError) as caught:
                        call(**spoilt)
                    self.assertIs(type(caught.exception), error_of(name, wrong[0]), wrong)

    def test_things_are_not_refused(self):
        for name, call in self.each():
            told = right_values(name, call)
            if "thing" in told:
                for thing in helper.odd_values():
                    self.assertIs(type(call(**{**told, "thing": thing})), bool)

    def test_any_value_in_place_of_any_parameter(self):
        for name, call in self.each():
            told = right_values(name, call)
            for parameter in told:
                if parameter not in ("thing", "many", "problem", "judge"):
                    self.refuses_or_takes(call, told, parameter, error_of(name, parameter))

    def refuses_or_takes(self, call, told, parameter, error):
        for value in helper.odd_values():
            try:
                call(**{**told, parameter: value})
            except error:
                pass
            except errors.WitnessError as other:
                # What another parameter may be hangs on this one.
                self.assertIn(type(other), (errors.BadTrail, errors.BadPaper, errors.BadDerivation, errors.BadLevel,
                                            errors.BadSpot, errors.TooMany, errors.NotLeaning,
                                            errors.NoClash, errors.NotBySums, errors.NotSound, errors.BadLiteral,
                                            errors.BadRow, errors.BadOther, errors.NotEqual,
                                            errors.NotEliminated, errors.BadLeast, errors.NotClosed, errors.BadFilling,
                                            errors.BadExchange))
                if not isinstance(other, (errors.NoClash, errors.NotBySums, errors.NotSound, errors.NotEqual,
                                          errors.NotEliminated, errors.NotClosed)):
                    self.assertNotEqual(parameter, list(told)[-1])

    def test_passed_stays_and_may_change(self):
        for name, call in self.each():
            told = right_values(name, call)
            before = {parameter: shown(value) for parameter, value in told.items()}
            found = call(**told)
            result = shown(found)
            self.assertEqual({parameter: shown(value) for parameter, value in told.items()}, before)
            for value in told.values():
                spoil(value)
            self.assertEqual(shown(found), result)

    def test_returned_is_new(self):
        for name, call in self.each():
            told = right_values(name, call)
            found = call(**told)
            result = shown(found)
            spoil(found)
            self.assertEqual(shown(call(**told)), result)
            self.assertEqual({parameter: shown(value) for parameter, value in told.items()},
                             {parameter: shown(value) for parameter, value in right_values(name, call).items()})

    def test_tuples_for_lists(self):
        for name, call in self.each():
            told = right_values(name, call)
            tuples = {parameter: tuple(value) if isinstance(value, list) else value
                      for parameter, value in told.items()}
            self.assertEqual(shown(call(**tuples)), shown(call(**told)))

    def test_order_of_keys_has_no_meaning(self):
        for name, call in self.each():
            told = right_values(name, call)
            if "named" in told:
                one = {k: row for k, row in enumerate(told["named"])}
                other = {k: one[k] for k in sorted(one, reverse=True)}
                self.assertEqual(shown(call(**{**told, "named": one})), shown(call(**{**told, "named": other})))
