"""Logs taken up again, wherever they were cut."""
from witnesslog.checks import is_list, is_number_between
from witnesslog.errors import BadHands, BadMost
from witnesslog.guides import check_guide, is_guide
from witnesslog.least import are_ways, check_price_weights, check_ways, least_from
from witnesslog.problems import check_problem
from witnesslog.seeking import Search

MOST_HANDS = 40
MOST_STEPS = 9999


def go_on(problem, log, ways, guide):
    """As least, with a log that begins with the steps of log."""
    search = Search(problem, log)
    check_ways(ways)
    check_guide(guide)
    check_price_weights(problem)
    return least_from(search, ways, guide)


def go_some(problem, log, ways, guide, most):
    """The first steps, at most so many behind log, of the log that go_on tells."""
    search = Search(problem, log)
    check_ways(ways)
    check_guide(guide)
    if not _is_most(most):
        raise BadMost("most is a number from 1 to 9999")
    check_price_weights(problem)
    return _first_steps(search, ways, guide, most)


def relay(problem, hands):
    """What go_on tells behind the steps of all hands, each of which goes on where the one ahead of it ended."""
    check_problem(problem)
    if not is_list(hands) or len(hands) > MOST_HANDS or not all([_is_hand(hand) for hand in hands]):
        raise BadHands("hands are a list of at most 40 triples of ways, a guide and a number")
    check_price_weights(problem)
    log = []
    for ways, guide, most in hands:
        log = _first_steps(Search(problem, log), ways, guide, most)
    return least_from(Search(problem, log), (), ())


def _first_steps(search, ways, guide, most):
    count = len(search.reader) + most
    return least_from(search, ways, guide)[-1][:count]


def _is_hand(thing):
    if not isinstance(thing, tuple) or len(thing) != 3:
        return False
    ways, guide, most = thing
    return are_ways(ways) and is_guide(guide) and _is_most(most)


def _is_most(thing):
    return is_number_between(1, thing, MOST_STEPS)
