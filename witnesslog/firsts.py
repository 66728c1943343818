"""The first filling of each lot, rows that leave it, and logs by which these rows come."""
from witnesslog.checks import check_few, check_filling, check_many
from witnesslog.fillings import MOST_TRIED, holding
from witnesslog.goals import OF_ROW, OF_STRICT, STRICT
from witnesslog.likenesses import check_exchanges, check_likenesses, checked_group
from witnesslog.orders import lexicographic, papers_of_sums
from witnesslog.problems import check_problem
from witnesslog.rows import holds_at, normal_row
from witnesslog.witnesses import check_exchange, filling_led

MOST_ORDERED = 60


def first_row(many, exchange):
    """The row that holds at a filling exactly if it is not greater than the led one."""
    check_many(many)
    check_exchange(many, exchange)
    check_few(many, MOST_ORDERED)
    return _row_of(exchange)


def first_rows(many, exchanges):
    """The ascending list of the first rows of exchanges that do not hold everywhere."""
    check_many(many)
    check_exchanges(many, exchanges)
    check_few(many, MOST_ORDERED)
    return _rows_of(exchanges)


def firsts(problem, exchanges):
    """The ascending list of the plans at which all first rows of exchanges hold."""
    check_problem(problem)
    check_likenesses(problem, exchanges)
    check_few(problem.many, MOST_TRIED)
    rows = _rows_of(exchanges)
    return [plan for plan in holding(problem.many, problem.rows) if all([holds_at(row, plan) for row in rows])]


def to_first(many, exchanges, filling):
    """The first exchange of closed that leads filling to the first filling of its lot."""
    check_many(many)
    check_exchanges(many, exchanges)
    check_filling(many, filling)
    found = [(filling_led(exchange, filling), exchange) for exchange in checked_group(many, exchanges)]
    return min(found)[1]


def likeness_steps(problem, exchanges):
    """The log by which the first rows of exchanges come."""
    check_problem(problem)
    check_likenesses(problem, exchanges)
    check_few(problem.many, MOST_ORDERED)
    order = lexicographic(problem.many, list(range(1, problem.many + 1)))
    steps = [("order", order, papers_of_sums(order))]
    for exchange in exchanges:
        row = _row_of(exchange)
        if row[1] > 0:
            papers = {STRICT: (("row", OF_ROW), ("row", OF_STRICT), ("sum",))}
            steps.append(("dominate", row, exchange, papers))
    return steps


def _row_of(exchange):
    sums = []
    weight = 1
    for variable in range(len(exchange), 0, -1):
        sums.extend([(weight, exchange[variable - 1]), (-weight, variable)])
        weight = 2 * weight
    return normal_row(sums, 0)


def _rows_of(exchanges):
    """The first rows, ascending, without doubles, without those that hold everywhere."""
    rows = [_row_of(exchange) for exchange in exchanges]
    return sorted({row for row in rows if row[1] > 0})
