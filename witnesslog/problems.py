"""Problems: rows that are to hold, and a price that is to be least."""
from witnesslog.checks import are_terms_of, check_filling, check_many, check_rows
from witnesslog.checks import is_filling_of, is_number, is_pair
from witnesslog.errors import BadNumber, BadPrice, BadProblem
from witnesslog.fillings import where
from witnesslog.rows import holds_at, opposite_terms, sum_at, weight_sum

MOST_OF_PROBLEM = 200


class Problem:
    """Rows over the variables 1 to many, and a price: a pair of terms and a base."""

    def __init__(self, many, rows, price):
        check_many(many, MOST_OF_PROBLEM)
        check_rows(many, rows)
        check_price(many, price)
        self.many = many
        self.rows = tuple(rows)
        self.price = price

    def __eq__(self, other):
        return (isinstance(other, Problem) and self.many == other.many and self.rows == other.rows
                and self.price == other.price)


def price_of(problem, filling):
    """The base, and the weights of the price's literals that are worth 1 at filling."""
    check_problem(problem)
    check_filling(problem.many, filling)
    return price_at(problem, filling)


def is_plan(problem, thing):
    """Whether thing is a filling at which all rows of problem hold."""
    check_problem(problem)
    return is_plan_of(problem, thing)


def plans(problem):
    """The ascending list of all plans."""
    check_problem(problem)
    return where(problem.many, problem.rows)


def least_plans(problem):
    """The ascending list of the plans of the least price."""
    found = plans(problem)
    prices = [price_at(problem, plan) for plan in found]
    least = min(prices, default=None)
    return [plan for plan, price in zip(found, prices) if price == least]


def prices_to(problem, number):
    """The row that holds just where the price is at most number."""
    check_problem(problem)
    if not is_number(number):
        raise BadNumber("a price is a number")
    return row_of_prices(problem, number)


def check_problem(problem):
    if not isinstance(problem, Problem):
        raise BadProblem("no problem")


def check_price(many, price):
    if not is_pair(price) or not are_terms_of(many, price[0]) or not is_number(price[1]):
        raise BadPrice("a price is a pair of terms and a base")


def price_at(problem, filling):
    terms, base = problem.price
    return base + sum_at(terms, filling)


def is_plan_of(problem, thing):
    return is_filling_of(problem.many, thing) and all([holds_at(row, thing) for row in problem.rows])


def row_of_prices(problem, number):
    """The row of the prices to number."""
    terms, base = problem.price
    return (opposite_terms(terms), max(0, weight_sum(terms) + base - number))
