"""Likenesses: exchanges by which the rows and the price of a problem are led to themselves."""
from witnesslog.checks import check_few, check_many, is_list
from witnesslog.errors import BadExchanges, NotClosed
from witnesslog.problems import check_problem
from witnesslog.witnesses import image_of, is_exchange_of, row_led, unchanged, witness_behind

MOST_ALIKE_TRIED = 6
MOST_EXCHANGES = 400


def is_likeness(problem, thing):
    """Whether thing is an exchange that leads rows and price of problem to themselves."""
    check_problem(problem)
    return is_likeness_of(problem, _counts_of(problem.rows), thing)


def likenesses(problem):
    """The ascending list of all likenesses."""
    check_problem(problem)
    check_few(problem.many, MOST_ALIKE_TRIED)
    counts = _counts_of(problem.rows)
    found = []
    for exchange in _promising(problem):
        if is_likeness_of(problem, counts, exchange):
            found.append(exchange)
            check_few(len(found), MOST_EXCHANGES)
    return found


def closed(many, exchanges):
    """The ascending list of all exchanges that come from exchanges, one behind the other."""
    check_many(many)
    check_exchanges(many, exchanges)
    return checked_group(many, exchanges)


def generators(many, exchanges):
    """Some of exchanges, a closed list, from which all of them come."""
    check_many(many)
    check_exchanges(many, exchanges)
    found = sorted(exchanges)
    if found != _group(many, found):
        raise NotClosed("more comes from the exchanges than they are")
    taken = []
    told = _spread(many, taken)
    for exchange in found:
        if exchange not in told:
            taken.append(exchange)
            told = _spread(many, taken)
    return taken


def check_exchanges(many, exchanges):
    if not is_list(exchanges) or len(exchanges) > MOST_EXCHANGES:
        raise BadExchanges("exchanges are a list of at most 400")
    if not all([is_exchange_of(many, exchange) for exchange in exchanges]):
        raise BadExchanges("one of them is no exchange")


def check_likenesses(problem, exchanges):
    if not is_list(exchanges) or len(exchanges) > MOST_EXCHANGES:
        raise BadExchanges("exchanges are a list of at most 400")
    counts = _counts_of(problem.rows)
    if not all([is_likeness_of(problem, counts, exchange) for exchange in exchanges]):
        raise BadExchanges("one of them is no likeness of the problem")


def checked_group(many, exchanges):
    """The ascending list of closed, if that has not too many."""
    found = _group(many, exchanges)
    check_few(len(found), MOST_EXCHANGES)
    return found


def is_likeness_of(problem, counts, thing):
    """As is_likeness; counts tells how often each row is there."""
    if not is_exchange_of(problem.many, thing):
        return False
    terms = problem.price[0]
    for weight, literal in terms:
        if (weight, image_of(thing, literal)) not in terms:
            return False
    # No two rows are led to one, so that it is enough that each is led to one that is there as often.
    for row in counts:
        if counts.get(row_led(thing, row), 0) != counts[row]:
            return False
    return True


def _counts_of(rows):
    counts = {}
    for row in rows:
        counts[row] = counts.get(row, 0) + 1
    return counts


def _promising(problem):
    """The ascending list of exchanges, among them all likenesses, that lead literals to such as look alike."""
    literals = [literal for literal in range(-problem.many, problem.many + 1) if literal != 0]
    looks = {literal: _look(problem, literal) for literal in literals}
    found = [()]
    for variable in range(1, problem.many + 1):
        alike = [literal for literal in literals
                 if looks[literal] == looks[variable] and looks[-literal] == looks[-variable]]
        found = [images + (literal,) for images in found for literal in alike
                 if literal not in images and -literal not in images]
    return found


def _look(problem, literal):
    """What a likeness does not change about literal: its weight in the price, and its rows and weights there."""
    priced = [weight for weight, other in problem.price[0] if other == literal]
    places = [(weight, bound, sorted([pair[0] for pair in terms]))
              for terms, bound in problem.rows for weight, other in terms if other == literal]
    return (priced, sorted(places))


def _group(many, exchanges):
    """The ascending list of closed; only some of it, but too many, if there are too many."""
    taken = []
    found = _spread(many, taken)
    for exchange in exchanges:
        if len(found) <= MOST_EXCHANGES and exchange not in found:
            taken.append(exchange)
            found = _spread(many, taken)
    return sorted(found)


def _spread(many, taken):
    """All that come from the exchanges taken, for keys, or some of them, but too many."""
    found = {unchanged(many): True}
    ahead = [unchanged(many)]
    while ahead and len(found) <= MOST_EXCHANGES:
        one = ahead.pop()
        for exchange in taken:
            more = witness_behind(one, exchange)
            if more not in found:
                found[more] = True
                ahead.append(more)
    return found
