"""Fillings: what each variable is worth."""
from witnesslog.checks import check_few, check_filling, check_literal, check_many, check_rows, is_filling_of
from witnesslog.rows import holds_at, worth_of

# So many variables at most have all their fillings tried.
MOST_TRIED = 12


def is_filling(many, thing):
    """Whether thing is a filling of many variables."""
    check_many(many)
    return is_filling_of(many, thing)


def worth(many, literal, filling):
    """What literal is worth at filling, 0 or 1."""
    check_many(many)
    check_literal(many, literal)
    check_filling(many, filling)
    return worth_of(literal, filling)


def fillings(many):
    """The ascending list of all fillings."""
    check_many(many)
    check_few(many, MOST_TRIED)
    return tuples_of(many)


def where(many, rows):
    """The ascending list of the fillings at which all rows hold."""
    check_many(many)
    check_rows(many, rows)
    check_few(many, MOST_TRIED)
    return holding(many, rows)


def holding(many, rows):
    """As where, for any number of rows."""
    found = tuples_of(many)
    for row in rows:
        found = [filling for filling in found if holds_at(row, filling)]
    return found


def tuples_of(count):
    """The ascending list of the tuples of count numbers 0 or 1."""
    found = [()]
    for _ in range(count):
        found = [items + (item,) for items in found for item in (0, 1)]
    return found
