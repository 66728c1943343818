"""Lots: fillings that exchanges lead to one another."""
from witnesslog.checks import check_few, check_filling, check_many
from witnesslog.errors import BadExchange
from witnesslog.fillings import MOST_TRIED, holding
from witnesslog.likenesses import MOST_EXCHANGES, check_exchanges, check_likenesses, checked_group, is_likeness
from witnesslog.problems import check_problem
from witnesslog.witnesses import filling_led


def lot_of(many, exchanges, filling):
    """The ascending list of the fillings to which filling is led."""
    check_many(many)
    check_exchanges(many, exchanges)
    check_filling(many, filling)
    return _checked_lot(exchanges, filling)


def keeping(many, exchanges, filling):
    """The ascending list of those of closed that lead filling to itself."""
    check_many(many)
    check_exchanges(many, exchanges)
    check_filling(many, filling)
    return [exchange for exchange in checked_group(many, exchanges) if filling_led(exchange, filling) == filling]


def lots(problem, exchanges):
    """The ascending list of the lots of all plans."""
    check_problem(problem)
    check_likenesses(problem, exchanges)
    check_few(problem.many, MOST_TRIED)
    found = []
    seen = {}
    # The plans ascend, so that a lot comes by its first one, and the lots ascend.
    for plan in holding(problem.many, problem.rows):
        if plan not in seen:
            lot = _checked_lot(exchanges, plan)
            found.append(lot)
            seen.update({filling: True for filling in lot})
    return found


def kept_plans(problem, exchange):
    """How many plans exchange leads to themselves."""
    check_problem(problem)
    if not is_likeness(problem, exchange):
        raise BadExchange("the exchange is no likeness of the problem")
    check_few(problem.many, MOST_TRIED)
    return len([plan for plan in holding(problem.many, problem.rows) if filling_led(exchange, plan) == plan])


def _checked_lot(exchanges, filling):
    found = {filling: True}
    ahead = [filling]
    while ahead:
        one = ahead.pop()
        for exchange in exchanges:
            more = filling_led(exchange, one)
            if more not in found:
                found[more] = True
                ahead.append(more)
        check_few(len(found), MOST_EXCHANGES)
    return sorted(found)
