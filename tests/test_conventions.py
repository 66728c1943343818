"""What holds for every function: how parameters are passed and checked, and what becomes of what is passed."""
import copy
import importlib
import inspect
from itertools import combinations

from tests import helper
from tests.helper import Case
from tests.test_language import INTERFACE
from witnesslog import errors
from witnesslog.problems import Problem

ROW = (((2, 1), (3, -2)), 4)
HALVED = [("row", 0), ("row", 1), ("sum",), ("divided", 2)]
RIGHT = {
    "many": 3, "thing": None, "sums": [(1, 1), (-2, -3)], "bound": 1, "row": ROW, "filling": (0, 1, 1), "one": ROW,
    "other": ROW, "literal": -2, "rows": [ROW, (((1, 1), (1, -2)), 1)], "witness": (2, -1, 3), "exchange": (2, -1, 3),
    "price": (((1, 1),), 0), "problem": Problem(3, [ROW], (((1, 1),), 0)), "number": 2,
    "named": [(((1, 1), (1, 2)), 1), (((1, 1), (1, -2)), 1)], "derivation": HALVED,
    "paper": (HALVED, [("row", 2), ("times", 2)]), "goal": (((1, 1),), 1), "literals": [-1, 3], "terms": ((1, 1),),
    "picks": [3, 1], "choices": [-1, 3], "trail": ((1, 0), (3, None)), "level": 1, "spot": 0,
}
# Where a parameter of the same name means another thing.
RIGHT_OF = {
    "behind": {"one": (2, -1, 3), "other": ("yes", 1, -1)},
    "nearest": {"filling": (1, 0, 0)},
    "clause_of": {"literals": [-1]},
}
WRONG = {
    "many": 0, "sums": {}, "bound": True, "row": list(ROW), "filling": [0, 1, 1], "one": None, "other": None,
    "literal": 0, "rows": {}, "witness": (1, 1, 0), "exchange": (1, 1, 2), "price": None, "problem": 3, "number": True,
    "named": {True: ROW}, "derivation": {}, "paper": [HALVED], "goal": None, "literals": [1, -1], "terms": [(1, 1)],
    "picks": [True], "choices": [0], "trail": [(1, 0)], "level": True, "spot": 1,
}
ERRORS = {
    "many": errors.BadMany, "sums": errors.BadSum, "bound": errors.BadBound, "row": errors.BadRow,
    "filling": errors.BadFilling, "literal": errors.BadLiteral, "rows": errors.BadRows, "witness": errors.BadWitness,
    "exchange": errors.BadExchange, "price": errors.BadPrice, "problem": errors.BadProblem, "number": errors.BadNumber,
    "named": errors.BadNamed, "derivation": errors.BadDerivation, "paper": errors.BadPaper, "goal": errors.BadGoal,
    "literals": errors.BadLiterals, "terms": errors.BadTerms, "picks": errors.BadPicks, "choices": errors.BadChoices,
    "trail": errors.BadTrail, "level": errors.BadLevel, "spot": errors.BadSpot,
}


def error_of(name, parameter):
    if parameter in ("one", "other"):
        return errors.BadWitness if name == "behind" else errors.BadRow
    return ERRORS[parameter]


def functions():
    for module, lines in INTERFACE:
        loaded = importlib.import_module("witnesslog." + module)
        for line in lines:
            yield line.split()[0], getattr(loaded, line.split()[0])


def right_values(name, call):
    told = {**RIGHT, **RIGHT_OF.get(name, {})}
    return {parameter: copy.deepcopy(told[parameter]) for parameter in inspect.signature(call).parameters}


def shown(thing):
    if isinstance(thing, Problem):
        return repr((thing.many, thing.rows, thing.price))
    return repr(thing)


def spoil(thing):
    """Change all lists and dicts in thing."""
    if isinstance(thing, (list, tuple)):
        for item in thing:
            spoil(item)
    if isinstance(thing, (list, dict)):
        thing.clear()


class ConventionsTest(Case):
    def each(self):
        for name, call in functions():
            with self.subTest(name):
                yield name, call

    def test_by_position_and_by_name(self):
        for name, call in self.each():
            told = right_values(name, call)
            self.assertEqual(shown(call(*told.values())), shown(call(**told)))

    def test_first_wrong_parameter_counts(self):
        for name, call in self.each():
            told = right_values(name, call)
            refused = [parameter for parameter in told if parameter != "thing"]
            for count in (1, 2, len(refused)):
                for wrong in combinations(refused, count):
                    spoilt = {**told, **{parameter: copy.deepcopy(WRONG[parameter]) for parameter in wrong}}
                    with self.assertRaises(errors.WitnessError) as caught:
                        call(**spoilt)
                    self.assertIs(type(caught.exception), error_of(name, wrong[0]), wrong)

    def test_things_are_not_refused(self):
        for name, call in self.each():
            told = right_values(name, call)
            if "thing" in told:
                for thing in helper.odd_values():
                    self.assertIs(type(call(**{**told, "thing": thing})), bool)

    def test_any_value_in_place_of_any_parameter(self):
        for name, call in self.each():
            told = right_values(name, call)
            for parameter in told:
                if parameter not in ("thing", "many", "problem"):
                    self.refuses_or_takes(call, told, parameter, error_of(name, parameter))

    def refuses_or_takes(self, call, told, parameter, error):
        for value in helper.odd_values():
            try:
                call(**{**told, parameter: value})
            except error:
                pass
            except errors.WitnessError as other:
                # What another parameter may be hangs on this one.
                self.assertIn(type(other), (errors.BadTrail, errors.BadPaper, errors.BadDerivation, errors.BadLevel,
                                            errors.BadSpot, errors.TooMany, errors.NotLeaning))
                self.assertNotEqual(parameter, list(told)[-1])

    def test_passed_stays_and_may_change(self):
        for name, call in self.each():
            told = right_values(name, call)
            before = {parameter: shown(value) for parameter, value in told.items()}
            found = call(**told)
            result = shown(found)
            self.assertEqual({parameter: shown(value) for parameter, value in told.items()}, before)
            for value in told.values():
                spoil(value)
            self.assertEqual(shown(found), result)

    def test_returned_is_new(self):
        for name, call in self.each():
            told = right_values(name, call)
            found = call(**told)
            result = shown(found)
            spoil(found)
            self.assertEqual(shown(call(**told)), result)
            self.assertEqual({parameter: shown(value) for parameter, value in told.items()},
                             {parameter: shown(value) for parameter, value in right_values(name, call).items()})

    def test_tuples_for_lists(self):
        for name, call in self.each():
            told = right_values(name, call)
            tuples = {parameter: tuple(value) if isinstance(value, list) else value
                      for parameter, value in told.items()}
            self.assertEqual(shown(call(**tuples)), shown(call(**told)))

    def test_order_of_keys_has_no_meaning(self):
        for name, call in self.each():
            told = right_values(name, call)
            if "named" in told:
                one = {k: row for k, row in enumerate(told["named"])}
                other = {k: one[k] for k in sorted(one, reverse=True)}
                self.assertEqual(shown(call(**{**told, "named": one})), shown(call(**{**told, "named": other})))
