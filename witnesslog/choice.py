"""A family of problems with long logs: some of many are to be chosen as cheaply as can be."""
from witnesslog.checks import is_list, is_number_between
from witnesslog.dominance import plain_step, preference_order, surpluses_of
from witnesslog.errors import BadLeast, BadPrices
from witnesslog.problems import Problem

MOST_PRICES = 200
MOST_PRICE = 999999


def choice(prices, least):
    """The problem of choosing at least so many of the things with these ascending prices."""
    _check_choice(prices, least)
    return _problem(prices, least)


def choice_log(prices, least):
    """The log behind which the sum of the first prices is best, and shown to be least."""
    _check_choice(prices, least)
    problem = _problem(prices, least)
    count = len(prices)
    literals = list(range(1, count + 1))
    steps = [preference_order(literals)]
    for first in range(count - 1):
        surpluses = surpluses_of(problem, first + 1, first + 2)
        steps.append(plain_step(problem, literals, (first, first + 1), surpluses))
    steps.extend([("follow", (((1, literal),), 1)) for literal in range(1, least + 1)])
    steps.append(("plan", (1,) * least + (0,) * (count - least)))
    told = [("row", 0)]
    for index in range(least):
        if prices[index] > 0:
            # The one row of the problem has the id 1, and the count - 1 rows of preferences come behind it.
            told.extend([("row", count + 1 + index), ("times", prices[index]), ("sum",)])
    return steps + [("derive", tuple(told))]


def _check_choice(prices, least):
    if not is_list(prices) or not 1 <= len(prices) <= MOST_PRICES:
        raise BadPrices("prices are a list of 1 to 200 numbers")
    if not all([is_number_between(0, price, MOST_PRICE) for price in prices]) or list(prices) != sorted(prices):
        raise BadPrices("prices are ascending numbers from 0 to 999999")
    if not is_number_between(0, least, len(prices)):
        raise BadLeast("least is a number from 0 to how many prices there are")


def _problem(prices, least):
    row = (tuple([(1, variable) for variable in range(1, len(prices) + 1)]), least)
    terms = tuple([(price, index + 1) for index, price in enumerate(prices) if price > 0])
    return Problem(len(prices), [row], (terms, 0))
