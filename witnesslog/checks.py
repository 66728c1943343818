"""Of what form a passed value is, and the errors for one that is not as described.

What begins with is_ or are_ takes it that many is right; what begins with check_ raises the error.
"""
from witnesslog.errors import BadFilling, BadLiteral, BadLiterals, BadMany, BadRow, BadRows, TooMany

MOST_VARIABLES = 600
MOST_ROWS = 400
MOST_ID = 999999999


def is_number(thing):
    # For Python a bool is an int as well; here it is never taken for a number.
    return isinstance(thing, int) and not isinstance(thing, bool)


def is_number_from(least, thing):
    return is_number(thing) and thing >= least


def is_number_between(least, thing, most):
    return is_number(thing) and least <= thing <= most


def is_list(thing):
    return isinstance(thing, (list, tuple))


def is_pair(thing):
    return isinstance(thing, tuple) and len(thing) == 2


def is_literal_of(many, thing):
    return is_number_between(-many, thing, many) and thing != 0


def are_terms_of(many, thing):
    """Whether thing is a tuple of pairs of weights and literals as a row has it."""
    if not isinstance(thing, tuple):
        return False
    size = 0
    for pair in thing:
        if not is_pair(pair):
            return False
        weight, literal = pair
        if not is_number_from(1, weight) or not is_literal_of(many, literal) or abs(literal) <= size:
            return False
        size = abs(literal)
    return True


def is_row_of(many, thing):
    return is_pair(thing) and are_terms_of(many, thing[0]) and is_number_from(0, thing[1])


def is_filling_of(many, thing):
    if not isinstance(thing, tuple) or len(thing) != many:
        return False
    return all([is_number_between(0, item, 1) for item in thing])


def is_short(thing):
    """Whether thing is a number of at most 40 digits."""
    return is_number_between(1 - 10 ** 40, thing, 10 ** 40 - 1)


def is_short_row(many, thing):
    """Whether thing is a row whose numbers have at most 40 digits."""
    return is_row_of(many, thing) and is_short(thing[1]) and all([is_short(weight) for weight, _ in thing[0]])


def is_id(thing):
    """Whether thing is a number that may be an id, or may stand in a key."""
    return is_number_between(0, thing, MOST_ID)


def is_worded(lone, numbered, thing):
    """Whether thing is a tuple of one of the words lone, or of one of the words numbered and something more."""
    if not isinstance(thing, tuple):
        return False
    return len(thing) == 1 and thing[0] in lone or len(thing) == 2 and thing[0] in numbered


def are_literals_of(many, thing):
    """Whether thing is a list of literals, of any variables."""
    return is_list(thing) and all([is_literal_of(many, literal) for literal in thing])


def are_unlike(literals):
    """Whether no two of the literals are of one variable."""
    return len({abs(literal) for literal in literals}) == len(literals)


def check_many(many, most=MOST_VARIABLES):
    if not is_number_between(1, many, most):
        raise BadMany("many is a number from 1 on, and not too great")


def check_literal(many, literal):
    if not is_literal_of(many, literal):
        raise BadLiteral("a literal is a number from -many to many, not 0")


def check_row(many, row):
    if not is_row_of(many, row):
        raise BadRow("a row is a pair of terms and a bound")


def check_rows(many, rows):
    if not is_list(rows) or len(rows) > MOST_ROWS or not all([is_row_of(many, row) for row in rows]):
        raise BadRows("rows are a list of at most 400 rows")


def check_filling(many, filling):
    if not is_filling_of(many, filling):
        raise BadFilling("a filling is a tuple of many numbers 0 or 1")


def check_literals(many, literals):
    if not are_literals_of(many, literals) or not are_unlike(literals):
        raise BadLiterals("literals are a list of literals of unlike variables")


def check_few(count, most):
    if count > most:
        raise TooMany(most)
