"""Literals and rows: sums of weights of literals that come to a bound at least."""
from witnesslog.checks import check_filling, check_many, check_row
from witnesslog.checks import is_list, is_literal_of, is_number, is_pair, is_row_of
from witnesslog.errors import BadBound, BadSum

MOST_SUMS = 2000


def is_literal(many, thing):
    """Whether thing is a literal of many variables."""
    check_many(many)
    return is_literal_of(many, thing)


def is_row(many, thing):
    """Whether thing is a row of many variables."""
    check_many(many)
    return is_row_of(many, thing)


def normal(many, sums, bound):
    """The row that holds just where the sum of numbers times worths of literals is at least bound."""
    check_many(many)
    if not _are_sums(many, sums):
        raise BadSum("sums are a list of at most 2000 pairs of a number and a literal")
    if not is_number(bound):
        raise BadBound("a bound is a number")
    return normal_row(sums, bound)


def total(many, row):
    """The sum of the weights of row."""
    check_many(many)
    check_row(many, row)
    return weight_sum(row[0])


def opposite(many, row):
    """The row that holds exactly where row does not."""
    check_many(many)
    check_row(many, row)
    return opposite_row(row)


def is_impossible(many, row):
    """Whether the bound of row is above the sum of its weights."""
    check_many(many)
    check_row(many, row)
    return bound_is_above(row)


def holds(many, row, filling):
    """Whether the literals of row that are worth 1 at filling come to its bound at least."""
    check_many(many)
    check_row(many, row)
    check_filling(many, filling)
    return holds_at(row, filling)


def covers(many, one, other):
    """Whether the surplus of other over its bound is never below that of one."""
    check_many(many)
    check_row(many, one)
    check_row(many, other)
    return is_covered(other, [one])


def _are_sums(many, thing):
    if not is_list(thing) or len(thing) > MOST_SUMS:
        return False
    return all([is_pair(pair) and is_number(pair[0]) and is_literal_of(many, pair[1]) for pair in thing])


def normal_row(sums, bound):
    surplus = {}
    low = bound
    for number, literal in sums:
        if literal > 0:
            surplus[literal] = surplus.get(literal, 0) + number
        else:
            surplus[-literal] = surplus.get(-literal, 0) - number
            low = low - number
    terms = []
    for variable in sorted(surplus):
        number = surplus[variable]
        if number > 0:
            terms.append((number, variable))
        if number < 0:
            terms.append((-number, -variable))
            low = low - number
    return (tuple(terms), max(0, low))


def weight_sum(terms):
    return sum([weight for weight, _ in terms])


def worth_of(literal, filling):
    worth = filling[abs(literal) - 1]
    if literal > 0:
        return worth
    return 1 - worth


def sum_at(terms, filling):
    """What the weights of the literals of terms that are worth 1 at filling come to."""
    return sum([weight for weight, literal in terms if worth_of(literal, filling) == 1])


def holds_at(row, filling):
    return sum_at(row[0], filling) >= row[1]


def slack_under(row, given):
    """The slack of row under the literals given, a list, a tuple or a dict that has them for keys."""
    return sum([weight for weight, literal in row[0] if -literal not in given]) - row[1]


def places_of(rows):
    """For each literal that stands in rows the list of the indexes of its rows, with its weights."""
    places = {}
    for index, row in enumerate(rows):
        for weight, literal in row[0]:
            places.setdefault(literal, []).append((index, weight))
    return places


def opposite_terms(terms):
    return tuple([(weight, -literal) for weight, literal in terms])


def opposite_row(row):
    terms, bound = row
    return (opposite_terms(terms), max(0, weight_sum(terms) - bound + 1))


def is_covered(row, rows):
    """Whether some row of rows covers row."""
    weights = {literal: weight for weight, literal in row[0]}
    for terms, bound in rows:
        if bound >= row[1] and bound - missing_in(terms, weights) >= row[1]:
            return True
    return False


def missing_in(terms, weights):
    """What the weights of terms are above those of the same literals in weights, a dict."""
    return sum([max(0, weight - weights.get(literal, 0)) for weight, literal in terms])


def bound_is_above(row):
    return row[1] > weight_sum(row[0])
