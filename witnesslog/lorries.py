"""A family of problems with many likenesses: loads are to be carried by lorries that are all alike."""
from witnesslog.checks import check_few, is_list, is_number_between, is_number_from
from witnesslog.errors import BadCount, BadLoads, BadMost
from witnesslog.firsts import MOST_ORDERED, likeness_steps
from witnesslog.problems import Problem

MOST_LOADS = 20
MOST_LOAD = 99999
MOST_LORRIES = 20


def lorries(loads, count, most):
    """The problem of carrying each of loads by one of so many lorries, none of which has more than most with it."""
    _check_lorries(loads, count, most)
    many = len(loads)
    rows = []
    for place in range(1, many + 1):
        rows.append((tuple([(1, lorry * many + place) for lorry in range(count)]), 1))
    for lorry in range(count):
        terms = tuple([(load, -(lorry * many + place + 1)) for place, load in enumerate(loads)])
        rows.append((terms, max(0, sum(loads) - most)))
    price = tuple([(load, lorry * many + place + 1) for lorry in range(count) for place, load in enumerate(loads)])
    return Problem(count * many, rows, (price, 0))


def next_exchanges(loads, count, most):
    """The exchanges of each lorry and the next one, load by load."""
    _check_lorries(loads, count, most)
    many = len(loads)
    found = []
    for lorry in range(count - 1):
        own = list(range(lorry * many + 1, (lorry + 1) * many + 1))
        following = list(range((lorry + 1) * many + 1, (lorry + 2) * many + 1))
        ahead = list(range(1, lorry * many + 1))
        behind = list(range((lorry + 2) * many + 1, count * many + 1))
        found.append(tuple(ahead + following + own + behind))
    return found


def lorry_log(loads, count, most):
    """The log by which just one plan of each lot is left, that in which the tuples of the lorries ascend."""
    return likeness_steps(lorries(loads, count, most), next_exchanges(loads, count, most))


def _check_lorries(loads, count, most):
    if not is_list(loads) or not 1 <= len(loads) <= MOST_LOADS:
        raise BadLoads("loads are a list of 1 to 20 numbers")
    if not all([is_number_between(1, load, MOST_LOAD) for load in loads]):
        raise BadLoads("a load is a number from 1 to 99999")
    if not is_number_between(1, count, MOST_LORRIES):
        raise BadCount("there are 1 to 20 lorries")
    if not is_number_from(0, most):
        raise BadMost("what a lorry has with it is at most a number from 0 on")
    check_few(count * len(loads), MOST_ORDERED)
