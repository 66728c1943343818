"""What a judge has shown, and whether the meaning of its problem is kept, by all fillings."""
from witnesslog.back import filling_led_back
from witnesslog.checks import check_few
from witnesslog.fillings import MOST_TRIED, holding
from witnesslog.judge import check_judge
from witnesslog.orders import is_no_later, shares_at
from witnesslog.problems import is_plan_of, price_at
from witnesslog.rows import bound_is_above, missing_in


def core_fillings(judge):
    """The ascending list of the fillings at which all core rows hold."""
    _check_tried(judge)
    return _holding_all(judge, judge.core())


def known_fillings(judge):
    """The ascending list of the fillings at which all known rows hold."""
    _check_tried(judge)
    return _holding_all(judge, judge.known())


def is_kept(judge):
    """Whether the core and the known rows keep the meaning of the problem (M1, M2 and M3 of the document)."""
    _check_tried(judge)
    core = [filling for filling in _holding_all(judge, judge.core()) if _is_below_best(judge, filling)]
    return _has_as_cheap(judge, core) and _is_served(judge, core) and _is_all_led_back(judge, core)


def is_proved(judge):
    """Whether an impossible row is known."""
    check_judge(judge)
    return has_impossible(judge)


def floor(judge):
    """The greatest price than which the known rows say that no plan is cheaper; best, where that is proved."""
    check_judge(judge)
    return floor_of(judge)


def has_impossible(judge):
    known = judge.known()
    return any([bound_is_above(known[name]) for name in known])


def floor_of(judge):
    if has_impossible(judge):
        return judge.best
    low = max(list(_lows(judge).values()) + [judge.problem.price[1]])
    if judge.best is None:
        return low
    return min(low, judge.best)


def _lows(judge):
    """What each known row but 0 says of the price, by its id: that it is so much at least."""
    terms, base = judge.problem.price
    weights = {literal: weight for weight, literal in terms}
    known = judge.known()
    # A row covers that the terms come to its bound, less what its weights are above those of the terms.
    return {name: base + known[name][1] - missing_in(known[name][0], weights) for name in known if name != 0}


def spared(judge, names, most):
    """The first of names, at most so many, all of whose rows may go, one behind the other, without a lower floor.

    The names are ids of derived rows, none of which is impossible.
    """
    low = floor_of(judge)
    lows = _lows(judge)
    # How many there are that keep the floor where it is.
    holding_it = len([name for name in lows if lows[name] >= low])
    if judge.problem.price[1] >= low:
        holding_it += 1
    found = []
    for name in names:
        if len(found) < most and (lows[name] < low or holding_it > 1):
            found.append(name)
            if lows[name] >= low:
                holding_it -= 1
    return found


def _check_tried(judge):
    check_judge(judge)
    check_few(judge.many, MOST_TRIED)


def _holding_all(judge, rows):
    return holding(judge.many, [rows[name] for name in rows])


def _is_below_best(judge, filling):
    return judge.best is None or price_at(judge.problem, filling) < judge.best


def _has_as_cheap(judge, core):
    """Whether some filling of core is as cheap as the cheapest plan below best, if there is one."""
    problem = judge.problem
    plans = [plan for plan in holding(problem.many, problem.rows) if _is_below_best(judge, plan)]
    if len(plans) == 0:
        return True
    least = min([price_at(problem, plan) for plan in plans])
    return any([price_at(problem, filling) <= least for filling in core])


def _is_served(judge, core):
    """Whether to each filling of core there is one of no greater price, no later, at which all known rows hold."""
    order = judge.order()
    serving = {_place(judge, filling): True for filling in _holding_all(judge, judge.known())}
    wanted = {_place(judge, filling): True for filling in core}
    return all([_is_served_by(order, serving, place) for place in wanted])


def _place(judge, filling):
    """All that counts of a filling where it serves, or is served."""
    return (price_at(judge.problem, filling), tuple(shares_at(judge.order(), filling)))


def _is_served_by(order, serving, place):
    price, shares = place
    # Mostly a filling serves itself.
    if place in serving and is_no_later(order, shares, shares):
        return True
    for one, other in serving:
        if one <= price and is_no_later(order, other, shares):
            return True
    return False


def _is_all_led_back(judge, core):
    for filling in core:
        plan = filling_led_back(judge, filling)
        if not is_plan_of(judge.problem, plan):
            return False
        if price_at(judge.problem, plan) > price_at(judge.problem, filling):
            return False
    return True
