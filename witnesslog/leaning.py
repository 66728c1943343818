"""Rows that lean on a filling, and rows of two pairs: following alone decides them."""
from witnesslog.checks import check_filling, check_many, check_rows
from witnesslog.errors import NotLeaning, NotShort
from witnesslog.following import Course, clashes
from witnesslog.rows import places_of, worth_of


def leans(many, rows, filling):
    """Whether each row has at most one pair whose literal is worth 0 at filling."""
    check_many(many)
    check_rows(many, rows)
    check_filling(many, filling)
    return _lean_on(rows, filling)


def leaning(many, rows):
    """A filling on which rows lean, or None."""
    check_many(many)
    check_rows(many, rows)
    places = places_of(rows)
    chosen = {}
    for variable in range(1, many + 1):
        if variable not in chosen and -variable not in chosen:
            spread = _spread(rows, places, -variable)
            if spread is None:
                spread = _spread(rows, places, variable)
            if spread is None:
                return None
            chosen.update(spread)
    return _filling_of(many, chosen)


def nearest(many, rows, filling):
    """None if rows are refuted by following, otherwise filling with each followed literal worth 1."""
    check_many(many)
    check_rows(many, rows)
    check_filling(many, filling)
    if not _lean_on(rows, filling):
        raise NotLeaning("the rows do not lean on the filling")
    course = Course(rows, ())
    _, clash = course.follow()
    if clash is not None:
        return None
    at_first = {variable: True for variable in range(1, many + 1) if filling[variable - 1] == 1}
    near = {variable: True for variable in at_first if -variable not in course.given}
    near.update(course.given)
    return _filling_of(many, near)


def short_plan(many, rows):
    """("filling", filling) at which all rows hold, or ("clash", literal), for rows of at most two pairs."""
    check_many(many)
    check_rows(many, rows)
    if not all([len(terms) <= 2 for terms, _ in rows]):
        raise NotShort("some row has more than two pairs")
    course = Course(rows, ())
    _, clash = course.follow()
    if clash is not None:
        # What clashes without literals clashes with any.
        return ("clash", 1)
    for variable in range(1, many + 1):
        if course.is_free(variable):
            # Rows of two pairs that have a given literal hold by now, so that only the new one counts here.
            if not clashes(rows, (variable,)):
                course.give(variable)
            elif not clashes(rows, (-variable,)):
                course.give(-variable)
            else:
                return ("clash", variable)
            course.follow()
    return ("filling", _filling_of(many, course.given))


def _lean_on(rows, filling):
    return all([_count_of_zeros(terms, filling) <= 1 for terms, _ in rows])


def _count_of_zeros(terms, filling):
    return len([literal for _, literal in terms if worth_of(literal, filling) == 0])


def _spread(rows, places, literal):
    """The literals that must be worth 1 beside literal for the rows to lean; None if that cannot be."""
    spread = {literal: True}
    ahead = [literal]
    while ahead:
        taken = ahead.pop()
        for index, _ in places.get(-taken, []):
            for _, other in rows[index][0]:
                if -other in spread and other != -taken:
                    return None
                if other != -taken and other not in spread:
                    spread[other] = True
                    ahead.append(other)
    return spread


def _filling_of(many, chosen):
    """The filling at which just those variables are worth 1 that are among chosen, a dict."""
    return tuple([1 if variable in chosen else 0 for variable in range(1, many + 1)])
