"""Going back behind a clash, and a search that learns till it is settled."""
from witnesslog.checks import check_many, check_row, check_rows
from witnesslog.following import Course
from witnesslog.learning import check_barring_row, learned_row, level_back
from witnesslog.rows import bound_is_above, is_covered
from witnesslog.trails import check_choices, check_trail, chosen_trail, pairs_to


def is_new(many, rows, row):
    """Whether no row of rows covers row."""
    check_many(many)
    check_rows(many, rows)
    check_row(many, row)
    return not is_covered(row, rows)


def gone_back(many, rows, trail, row):
    """The trail, back to where row says something, with what is followed from there, and the clash."""
    check_many(many)
    check_rows(many, rows)
    check_trail(many, rows, trail)
    check_barring_row(many, trail, row)
    kept = pairs_to(trail, level_back(trail, row))
    steps, clash = Course(list(rows) + [row], [literal for literal, _ in kept]).follow()
    return (tuple(kept + steps), clash)


def settled(many, rows, choices):
    """("filling", filling, more) or ("none", derivation, more); more are the rows learned, with derivations."""
    check_many(many)
    check_rows(many, rows)
    check_choices(many, choices)
    # Behind the choices all other variables are chosen, so that what does not clash is a filling.
    wishes = list(choices) + [-variable for variable in range(1, many + 1)]
    known = list(rows)
    more = []
    trail, clash = chosen_trail(known, wishes)
    while clash is not None:
        row, told = learned_row(known, trail)
        if bound_is_above(row):
            return ("none", told, tuple(more))
        known.append(row)
        more.append((row, told))
        trail, clash = chosen_trail(known, wishes)
    ones = {literal: True for literal, _ in trail}
    return ("filling", tuple([1 if variable in ones else 0 for variable in range(1, many + 1)]), tuple(more))
