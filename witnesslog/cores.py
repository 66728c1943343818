"""Cores: literals that cannot all be worth 1, none of which can be left out; and a family with short logs."""
from witnesslog.checks import is_list, is_number_between
from witnesslog.derivations import summed_steps
from witnesslog.errors import BadGroups
from witnesslog.guides import check_guide
from witnesslog.problems import Problem, check_problem, is_plan_of
from witnesslog.rows import worth_of
from witnesslog.seeking import Search, Wishes, bar, check_lot, is_barred, is_lot, seek

MOST_GROUPS = 20
MOST_OF_GROUP = 25
MOST_WEIGHT = 999999999
MOST_NUMBERS = 200
MOST_GUARDED_PAIRS = 400


def tight_core(problem, assumed, guide):
    """("plan", filling) with assumed worth 1, or ("core", lot, plans, log) with some of assumed that cannot be."""
    check_problem(problem)
    check_lot(problem.many, assumed)
    check_guide(guide)
    search = Search(problem, [])
    wishes = Wishes(guide)
    lot = seek(search, wishes, assumed, [])
    if lot is None:
        return ("plan", search.found())
    bar(search, lot)
    plans = {}
    for literal in list(lot):
        # A literal whose plan is known is in each smaller lot, too.
        if literal in lot:
            others = seek(search, wishes, tuple([other for other in lot if other != literal]), [])
            if others is None:
                plans[literal] = search.found()
                search.restart()
            else:
                lot = others
                bar(search, lot)
    # The last step has to be the one for this lot.
    bar(search, lot)
    return ("core", lot, {literal: plans[literal] for literal in sorted(plans)}, search.log())


def is_core(problem, assumed, thing):
    """Whether thing is such a tuple as tight_core tells."""
    check_problem(problem)
    check_lot(problem.many, assumed)
    if not isinstance(thing, tuple) or len(thing) not in (2, 4):
        return False
    if len(thing) == 2:
        return thing[0] == "plan" and _is_plan_with(problem, assumed, thing[1])
    word, lot, plans, log = thing
    if word != "core" or not is_lot(problem.many, lot) or not isinstance(plans, dict) or len(plans) != len(lot):
        return False
    # Python takes a key True for 1.
    if not is_lot(problem.many, tuple(plans)) or not all([literal in plans for literal in lot]):
        return False
    for literal in lot:
        if not _is_plan_with(problem, [other for other in lot if other != literal], plans[literal]):
            return False
    return is_barred(problem, assumed, lot, log)


def guarded(groups):
    """The problem of leaving out at most one of each group, the others of which cost their weights."""
    _check_groups(groups)
    rows = [(((1, one), (1, other)), 1) for variables in _variables_of(groups)
            for index, one in enumerate(variables) for other in variables[index + 1:]]
    weights = [weight for group in groups for weight in group]
    return Problem(len(weights), rows, (tuple([(weight, index + 1) for index, weight in enumerate(weights)]), 0))


def guarded_log(groups):
    """A short log that shows the least price: in each group the heaviest one is left out."""
    _check_groups(groups)
    steps = []
    parts = []
    ids = _ids_of_pairs(groups)
    plan = []
    for group, variables in zip(groups, _variables_of(groups)):
        heaviest = _by_weight(group)
        plan.extend([0 if place == heaviest[0] else 1 for place in range(len(group))])
        last = None
        for count in range(2, len(group) + 1):
            lighter = group[heaviest[count]] if count < len(group) else 0
            weight = group[heaviest[count - 1]] - lighter
            if weight > 0:
                steps.append(("derive", _all_but_one([variables[place] for place in heaviest[:count]], last, ids)))
                last = (count, len(ids) + len(steps))
                parts.append((weight, last[1]))
    return steps + [("derive", tuple(summed_steps(parts))), ("plan", tuple(plan))]


def _is_plan_with(problem, literals, thing):
    return is_plan_of(problem, thing) and all([worth_of(literal, thing) == 1 for literal in literals])


def _check_groups(groups):
    if not is_list(groups) or not 1 <= len(groups) <= MOST_GROUPS or not all([_is_group(group) for group in groups]):
        raise BadGroups("groups are a list of 1 to 20 lists of 2 to 25 weights")
    if sum([len(group) for group in groups]) > MOST_NUMBERS:
        raise BadGroups("there are at most 200 weights")
    if sum([len(group) * (len(group) - 1) // 2 for group in groups]) > MOST_GUARDED_PAIRS:
        raise BadGroups("there are at most 400 pairs")


def _is_group(thing):
    if not is_list(thing) or not 2 <= len(thing) <= MOST_OF_GROUP:
        return False
    return all([is_number_between(1, weight, MOST_WEIGHT) for weight in thing])


def _variables_of(groups):
    """For each group the list of its variables."""
    found = []
    last = 0
    for group in groups:
        found.append(list(range(last + 1, last + len(group) + 1)))
        last += len(group)
    return found


def _ids_of_pairs(groups):
    """The id of the row of each two variables of a group, the lesser one ahead."""
    pairs = [(one, other) for variables in _variables_of(groups)
             for index, one in enumerate(variables) for other in variables[index + 1:]]
    return {pair: index + 1 for index, pair in enumerate(pairs)}


def _by_weight(group):
    """The indexes of the weights of group, the greatest weight ahead."""
    return [-place for _, place in sorted([(weight, -index) for index, weight in enumerate(group)], reverse=True)]


def _all_but_one(variables, last, ids):
    """The derivation of: all of variables but one are worth 1.

    last is None, or how many of them, the first ones, this is known of already, and the id of that row.
    """
    if last is None:
        last = (2, ids[_pair(variables[0], variables[1])])
    done, name = last
    told = [("row", name)]
    for count in range(done, len(variables)):
        # What is so for the first ones, count - 1 times, and the rows of the next one with each of them.
        told.append(("times", count - 1))
        for variable in variables[:count]:
            told.extend([("row", ids[_pair(variable, variables[count])]), ("sum",)])
        told.append(("divided", count))
    return tuple(told)


def _pair(one, other):
    return (min(one, other), max(one, other))
