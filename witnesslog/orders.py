"""Orders of fillings: rows over what some literals are worth at a first filling and at a second one."""
from witnesslog.checks import are_literals_of, are_terms_of, are_unlike, check_few, check_filling, check_many
from witnesslog.checks import is_pair, is_row_of
from witnesslog.errors import BadLiterals, BadOrder, BadTerms, NotBySums
from witnesslog.fillings import tuples_of
from witnesslog.proving import refuted_steps
from witnesslog.rows import opposite_row, weight_sum, worth_of
from witnesslog.witnesses import check_exchange, check_witness, image_of, row_led

MOST_LITERALS = 200
MOST_ORDER_ROWS = 20
MOST_LEXICOGRAPHIC = 60
MOST_WORTHS = 6
MOST_SOUND = 2

# The order by which each filling is no later than any other one.
NO_ORDER = ((), ())


def is_order(many, thing):
    """Whether thing is an order of literals of many variables."""
    check_many(many)
    return is_order_of(many, thing)


def no_later(many, order, first, second):
    """Whether all rows of order hold for the fillings first and second."""
    _check_fillings(many, order, first, second)
    return is_no_later(order, shares_at(order, first), shares_at(order, second))


def strictly_earlier(many, order, first, second):
    """Whether first is no later than second, and second is not no later than first."""
    _check_fillings(many, order, first, second)
    return is_earlier(order, shares_at(order, first), shares_at(order, second))


def rows_at(many, order, first, second):
    """The list of the rows of order for the filling led by first and the filling led by second."""
    check_many(many)
    check_order(many, order)
    check_witness(many, first)
    check_witness(many, second)
    return rows_of_order(order, first, second)


def rows_along(many, order):
    """Three lists of the rows of order: for a first and a second filling, a second and third, a first and third."""
    check_many(many)
    check_order(many, order)
    return order_along(order)


def is_sound(many, order):
    """Whether each filling is no later than itself, and no later leads on to no later."""
    check_many(many)
    check_order(many, order)
    check_few(len(order[0]), MOST_WORTHS)
    return is_sound_order(order)


def soundness(many, order):
    """("sound", papers), or ("same", worths) or ("along", one, two, three) that show that order is not sound."""
    check_many(many)
    check_order(many, order)
    check_few(len(order[0]), MOST_SOUND)
    worths = tuples_of(len(order[0]))
    later = _no_later_table(order)
    for index, one in enumerate(worths):
        if not later[index][index]:
            return ("same", one)
    broken = _first_broken(later)
    if broken is not None:
        return ("along", worths[broken[0]], worths[broken[1]], worths[broken[2]])
    return ("sound", _sound_papers(order))


def is_by_sums(many, order):
    """Whether each row of order says that a sum does not fall from the first filling to the second."""
    check_many(many)
    check_order(many, order)
    return _is_order_by_sums(order)


def papers_by_sums(many, order):
    """The papers by which a judge takes an order that is by sums."""
    check_many(many)
    check_order(many, order)
    if not _is_order_by_sums(order):
        raise NotBySums("not each row of the order is a difference row")
    return papers_of_sums(order)


def lexicographic(many, literals):
    """The order by which the worths of literals, as tuples, are not greater."""
    check_many(many)
    if not are_literals_of(many, literals) or not are_unlike(literals) or len(literals) > MOST_LITERALS:
        raise BadLiterals("literals are a list of at most 200 literals of unlike variables")
    check_few(len(literals), MOST_LEXICOGRAPHIC)
    weight = 1
    terms = []
    for literal in reversed(literals):
        terms.append((weight, literal))
        weight = 2 * weight
    terms.reverse()
    return order_of_sum(terms)


def by_weights(many, terms):
    """The order by which the weights of the literals that are worth 1 come to no more."""
    check_many(many)
    if not are_terms_of(many, terms) or len(terms) > MOST_LITERALS:
        raise BadTerms("terms are the terms of a row, at most 200 pairs")
    return order_of_sum(terms)


def both(many, one, other):
    """The order by which no later is no later by one and by other."""
    check_many(many)
    check_order(many, one)
    check_order(many, other)
    sizes = [abs(literal) for literal in one[0]]
    literals = one[0] + tuple([literal for literal in other[0] if abs(literal) not in sizes])
    check_few(len(literals), MOST_LITERALS)
    check_few(len(one[1]) + len(other[1]), MOST_ORDER_ROWS)
    return (literals, tuple(_rows_said_by(literals, one) + _rows_said_by(literals, other)))


def led_order(many, order, exchange):
    """The order of the literals led by exchange."""
    check_many(many)
    check_order(many, order)
    check_exchange(many, exchange)
    return (tuple([image_of(exchange, literal) for literal in order[0]]), order[1])


def is_order_of(many, thing):
    if not is_pair(thing):
        return False
    literals, rows = thing
    if not isinstance(literals, tuple) or not isinstance(rows, tuple) or len(literals) > MOST_LITERALS:
        return False
    if not are_literals_of(many, literals) or not are_unlike(literals) or len(rows) > MOST_ORDER_ROWS:
        return False
    # Without literals there are no rows, not even those without pairs.
    if len(literals) == 0:
        return len(rows) == 0
    return all([is_row_of(2 * len(literals), row) for row in rows])


def check_order(many, order):
    if not is_order_of(many, order):
        raise BadOrder("an order is a pair of literals of unlike variables and of rows over twice as many variables")


def _check_fillings(many, order, first, second):
    check_many(many)
    check_order(many, order)
    check_filling(many, first)
    check_filling(many, second)


def shares_at(order, filling):
    """For each row of order what filling gives to it as the first filling, and what as the second one."""
    literals, rows = order
    return _shares_of(rows, tuple([worth_of(literal, filling) for literal in literals]))


def _shares_of(rows, worths):
    shares = []
    for terms, _ in rows:
        first, second = 0, 0
        for weight, literal in terms:
            if abs(literal) <= len(worths):
                first = first + weight * worth_of(literal, worths)
            else:
                second = second + weight * _worth_in_second(literal, worths)
        shares.append((first, second))
    return shares


def _worth_in_second(literal, worths):
    if literal > 0:
        return worths[literal - len(worths) - 1]
    return 1 - worths[-literal - len(worths) - 1]


def is_no_later(order, first, second):
    """Whether a filling with the shares first is no later than one with the shares second."""
    sums = [one[0] + other[1] for one, other in zip(first, second)]
    return all([total >= row[1] for total, row in zip(sums, order[1])])


def is_earlier(order, first, second):
    return is_no_later(order, first, second) and not is_no_later(order, second, first)


def rows_of_order(order, first, second):
    literals, rows = order
    images = [image_of(first, literal) for literal in literals] + [image_of(second, literal) for literal in literals]
    return [row_led(images, row) for row in rows]


def order_along(order):
    literals, rows = order
    count = len(literals)
    spots = [tuple(range(start + 1, start + count + 1)) for start in (0, count, 2 * count)]
    return tuple([[row_led(spots[one] + spots[other], row) for row in rows] for one, other in ((0, 1), (1, 2), (0, 2))])


def _no_later_table(order):
    """For all worths, ascending, a list that says of all worths whether the former are no later than the latter."""
    shares = [_shares_of(order[1], worths) for worths in tuples_of(len(order[0]))]
    return [[is_no_later(order, one, other) for other in shares] for one in shares]


def _first_broken(later):
    """The first three indexes of which the first is no later than the second, it than the third, but not so along."""
    for one, row in enumerate(later):
        for two in range(len(later)):
            if row[two]:
                for three in range(len(later)):
                    if later[two][three] and not row[three]:
                        return (one, two, three)
    return None


def is_sound_order(order):
    later = _no_later_table(order)
    return all([later[index][index] for index in range(len(later))]) and _first_broken(later) is None


def _sound_papers(order):
    along = order_along(order)
    assumed = along[0] + along[1]
    papers = {}
    for index, goal in enumerate(along[2]):
        steps = refuted_steps(assumed + [opposite_row(goal)])
        papers[("along", index)] = tuple([_with_goal(len(assumed), told) for told in steps])
    return papers


def _with_goal(place, instruction):
    """The instruction, in which the opposite of the goal, named place so far, is named -2."""
    if instruction == ("row", place):
        return ("row", -2)
    return instruction


def _is_order_by_sums(order):
    return all([_is_difference(len(order[0]), row) for row in order[1]])


def _is_difference(count, row):
    weights = {literal: weight for weight, literal in row[0]}
    for variable in range(1, count + 1):
        for literal, other in ((-variable, count + variable), (variable, -(count + variable))):
            if weights.get(literal, 0) != weights.get(other, 0):
                return False
    return 2 * row[1] == weight_sum(row[0])


def papers_of_sums(order):
    count = len(order[1])
    return {("along", index): (("row", index), ("row", count + index), ("sum",), ("row", -2), ("sum",))
            for index in range(count)}


def order_of_sum(terms):
    """The order of the literals of terms, by what their weights come to."""
    if len(terms) == 0:
        return NO_ORDER
    count = len(terms)
    first = [(pair[0], -(index + 1)) for index, pair in enumerate(terms)]
    second = [(pair[0], count + index + 1) for index, pair in enumerate(terms)]
    row = (tuple(first + second), weight_sum(terms))
    return (tuple([literal for _, literal in terms]), (row,))


def _rows_said_by(literals, order):
    """The rows of order as rows of an order of literals."""
    places = {literal: index + 1 for index, literal in enumerate(literals)}
    images = []
    for start in (0, len(literals)):
        for literal in order[0]:
            if literal in places:
                images.append(start + places[literal])
            else:
                images.append(-(start + places[-literal]))
    return [row_led(images, row) for row in order[1]]
