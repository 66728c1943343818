"""Literals that are preferred to others, the rows that say so, and logs by which these rows come."""
from witnesslog.checks import check_few, check_literal, check_literals, check_many, is_literal_of
from witnesslog.errors import BadOther, BadPlan
from witnesslog.fillings import MOST_TRIED, holding
from witnesslog.goals import OF_GOAL, OF_ROW, OF_STRICT, STRICT, Ground, goals_by_dominance
from witnesslog.orders import order_of_sum, papers_of_sums
from witnesslog.problems import check_problem, is_plan_of, price_at
from witnesslog.proving import refuted_steps
from witnesslog.rows import normal_row, opposite_row, worth_of
from witnesslog.witnesses import unchanged

MOST_WITH_PAPERS = 8


def exchange_of(many, one, other):
    """The exchange of two literals of unlike variables."""
    check_many(many)
    check_literal(many, one)
    if not is_literal_of(many, other) or abs(other) == abs(one):
        raise BadOther("the other one is a literal of another variable")
    return exchange_of_two(many, one, other)


def is_preferred(problem, one, other):
    """Whether each plan with one at 0 and other at 1 is led by their exchange to a plan that is no dearer."""
    _check_two(problem, one, other)
    check_few(problem.many, MOST_TRIED)
    return _prefers(_prices_of_plans(problem), one, other)


def is_plainly_preferred(problem, one, other):
    """Whether one weighs at least as much as other in each row, and at most as much in the price."""
    _check_two(problem, one, other)
    return min(surpluses_of(problem, one, other)) >= 0


def preference_rows(problem, literals):
    """For each literal that is preferred to a later one the row that says that it is worth at least as much."""
    prices = _checked_prices(problem, literals)
    return [_row_of(literals[one], literals[other]) for one, other in _preferred_pairs(prices, literals)]


def exchanged(problem, literals, plan):
    """The pairs of indexes by whose exchanges plan is led to one at which all preference rows hold, and that one."""
    check_problem(problem)
    check_literals(problem.many, literals)
    if not is_plan_of(problem, plan):
        raise BadPlan("no plan of the problem")
    check_few(problem.many, MOST_TRIED)
    preferred = _preferred_pairs(_prices_of_plans(problem), literals)
    pairs = []
    last = plan
    wrong = _first_wrong(preferred, literals, last)
    while wrong is not None:
        pairs.append(wrong)
        last = _swapped(last, literals[wrong[0]], literals[wrong[1]])
        wrong = _first_wrong(preferred, literals, last)
    return (pairs, last)


def ranked(problem, literals):
    """The list of literals, of which none has a later one that is preferred to it alone."""
    prices = _checked_prices(problem, literals)
    left = list(literals)
    found = []
    while left:
        first = _first_unbeaten(prices, left)
        found.append(first)
        left.remove(first)
    return found


def lots_alike(problem, literals):
    """The lots, tuples of literals each of which is preferred to each other one of its lot."""
    return _lots(_checked_prices(problem, literals), literals)


def chain_rows(problem, literals):
    """Lot by lot the rows that say that a literal is worth at least what the next one is."""
    lots = _lots(_checked_prices(problem, literals), literals)
    return [_row_of(lot[index], lot[index + 1]) for lot in lots for index in range(len(lot) - 1)]


def plan_lots(problem, literals):
    """The ascending list of the ascending lists of plans that are alike."""
    prices = _checked_prices(problem, literals)
    lots = _lots(prices, literals)
    sizes = [abs(literal) for literal in literals]
    others = [variable for variable in range(1, problem.many + 1) if variable not in sizes]
    found = {}
    for plan in prices:
        counts = [sum([worth_of(literal, plan) for literal in lot]) for lot in lots]
        likeness = tuple(counts + [plan[variable - 1] for variable in others])
        found.setdefault(likeness, []).append(plan)
    return sorted(list(found.values()))


def plain_steps(problem, literals):
    """The log of the preference rows of all literals that are plainly preferred to later ones."""
    check_problem(problem)
    check_literals(problem.many, literals)
    steps = [preference_order(literals)]
    nets = [_nets(problem, literal) for literal in literals]
    for pair in _pairs(literals):
        surpluses = _surpluses(nets[pair[0]], nets[pair[1]])
        if min(surpluses) >= 0:
            steps.append(plain_step(problem, literals, pair, surpluses))
    return steps


def preference_steps(problem, literals):
    """The log of all preference rows."""
    check_problem(problem)
    check_literals(problem.many, literals)
    check_few(problem.many, MOST_WITH_PAPERS)
    order = preference_order(literals)
    steps = [order]
    for one, other in _preferred_pairs(_prices_of_plans(problem), literals):
        steps.append(_proved_step(problem, order[1], literals, one, other))
    return steps


def exchange_of_two(many, one, other):
    images = list(unchanged(many))
    images[abs(one) - 1] = other if one > 0 else -other
    images[abs(other) - 1] = one if other > 0 else -one
    return tuple(images)


def _check_two(problem, one, other):
    check_problem(problem)
    check_literal(problem.many, one)
    if not is_literal_of(problem.many, other) or other == -one:
        raise BadOther("the other one is the same literal, or one of another variable")


def _checked_prices(problem, literals):
    check_problem(problem)
    check_literals(problem.many, literals)
    check_few(problem.many, MOST_TRIED)
    return _prices_of_plans(problem)


def _prices_of_plans(problem):
    """The dict from all plans, ascending, to their prices."""
    return {plan: price_at(problem, plan) for plan in holding(problem.many, problem.rows)}


def _prefers(prices, one, other):
    for plan in prices:
        if worth_of(one, plan) == 0 and worth_of(other, plan) == 1:
            led = _swapped(plan, one, other)
            if led not in prices or prices[led] > prices[plan]:
                return False
    return True


def _swapped(plan, one, other):
    """The plan, at which one is worth 0 and other 1, led by their exchange."""
    items = list(plan)
    for literal in (one, other):
        items[abs(literal) - 1] = 1 - items[abs(literal) - 1]
    return tuple(items)


def _pairs(literals):
    """The pairs of indexes of literals, the first one below the second one, ascending."""
    return [(one, other) for one in range(len(literals)) for other in range(one + 1, len(literals))]


def _preferred_pairs(prices, literals):
    return [(one, other) for one, other in _pairs(literals) if _prefers(prices, literals[one], literals[other])]


def _row_of(one, other):
    """The row that says that one is worth at least what other is."""
    return normal_row([(1, one), (1, -other)], 1)


def _first_wrong(pairs, literals, plan):
    for one, other in pairs:
        if worth_of(literals[one], plan) == 0 and worth_of(literals[other], plan) == 1:
            return (one, other)
    return None


def _first_unbeaten(prices, left):
    """The first literal to which no other one is preferred, but such as it is preferred to as well."""
    for one in left:
        if all([_prefers(prices, one, other) or not _prefers(prices, other, one) for other in left]):
            return one
    return None


def _lots(prices, literals):
    lots = []
    for literal in literals:
        places = [place for place, lot in enumerate(lots)
                  if _prefers(prices, literal, lot[0]) and _prefers(prices, lot[0], literal)]
        if places:
            lots[places[0]] = lots[places[0]] + (literal,)
        else:
            lots.append((literal,))
    return lots


def _nets(problem, literal):
    """Row by row the weight of literal, less that of its opposite; at last the same of the price, turned about."""
    sums = [terms for terms, _ in problem.rows]
    sums.append([(-weight, other) for weight, other in problem.price[0]])
    return [_net_weight(pairs, literal) for pairs in sums]


def _net_weight(terms, literal):
    return (sum([weight for weight, other in terms if other == literal])
            - sum([weight for weight, other in terms if other == -literal]))


def _surpluses(nets, others):
    return [one - other for one, other in zip(nets, others)]


def surpluses_of(problem, one, other):
    """By how much one is better than other in each row and, last, in the price."""
    return _surpluses(_nets(problem, one), _nets(problem, other))


def preference_order(literals):
    """The step for the order by which it is earlier that literals are worth 1, the more so the first ones."""
    count = len(literals)
    weights = {abs(literal): (count - index, -literal) for index, literal in enumerate(literals)}
    order = order_of_sum([weights[size] for size in sorted(weights)])
    return ("order", order, papers_of_sums(order))


def plain_step(problem, literals, pair, surpluses):
    """The step for the literals with the indexes in pair, the first one plainly preferred to the second."""
    papers = _order_papers(pair[1] - pair[0])
    for index in range(len(problem.rows)):
        if surpluses[index] > 0:
            papers[("row", index + 1)] = (("row", index + 1), ("row", OF_ROW), ("times", surpluses[index]), ("sum",),
                                          ("row", OF_GOAL), ("sum",))
    if surpluses[-1] > 0:
        papers[("price",)] = _by_row(surpluses[-1], OF_GOAL)
    return _dominating(problem, literals[pair[0]], literals[pair[1]], papers)


def _by_row(number, name):
    """The derivation by the opposite of the row that comes, this number of times, and one more row."""
    return (("row", OF_ROW), ("times", number), ("row", name), ("sum",))


def _order_papers(number):
    return {("order", 0): _by_row(number, OF_GOAL), STRICT: _by_row(number, OF_STRICT)}


def _dominating(problem, one, other, papers):
    exchange = exchange_of_two(problem.many, one, other)
    return ("dominate", _row_of(one, other), exchange, {key: papers[key] for key in sorted(papers)})


def _proved_step(problem, order, literals, one, other):
    """The step for a literal that is preferred to another one, with papers where following is not enough.

    At each plan at which the first one is worth 0 and the second one 1 the goals hold, so that they follow from the
    problem's rows and the opposite of the row that comes.
    """
    first, second = literals[one], literals[other]
    core = {index + 1: row for index, row in enumerate(problem.rows)}
    exchange = exchange_of_two(problem.many, first, second)
    assumed = list(problem.rows) + [opposite_row(_row_of(first, second))]
    ground = Ground(assumed)
    papers = _order_papers(other - one)
    goals = goals_by_dominance(core, problem.price, order, exchange)
    for key in goals:
        if key not in papers and not ground.meets(goals[key]):
            steps = refuted_steps(assumed + [opposite_row(goals[key])])
            papers[key] = tuple([_named(len(problem.rows), told) for told in steps])
    return _dominating(problem, first, second, papers)


def _named(count, instruction):
    """The instruction, the index of a row exchanged for its name in the step."""
    if instruction[0] != "row":
        return instruction
    if instruction[1] < count:
        return ("row", instruction[1] + 1)
    return ("row", OF_ROW if instruction[1] == count else OF_GOAL)
