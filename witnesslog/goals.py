"""Goals: what must hold where a row does not, so that the row may come though it need not follow."""
from witnesslog.checks import check_many, check_row, is_id, is_number, is_row_of, is_worded
from witnesslog.derivations import end_of, is_derivation_form, rows_by_name
from witnesslog.errors import BadNamed
from witnesslog.following import Course
from witnesslog.orders import check_order, rows_of_order
from witnesslog.problems import check_price
from witnesslog.rows import bound_is_above, is_covered, normal_row, opposite_row
from witnesslog.witnesses import check_witness, image_of, row_led, unchanged

# The names of the opposite of the row that is to come, of the opposite of a goal, and of the first strict row.
OF_ROW = -1
OF_GOAL = -2
OF_STRICT = -3

STRICT = ("strict",)

# The words of keys, those that stand alone and those with a number behind them.
LONE_KEYS = ("own", "price", "strict")
NUMBERED_KEYS = ("row", "order", "same", "along")


def witness_goals(many, known, price, order, row, witness):
    """The dict from the keys to the goals of a step ("witness", row, witness, papers)."""
    _check_parts(many, known, price, order, row, witness)
    return goals_by_witness(known, price, order, row, witness)


def dominance_goals(many, core, price, order, row, witness):
    """The dict from the keys to the goals of a step ("dominate", row, witness, papers), without the strict one."""
    _check_parts(many, core, price, order, row, witness)
    return goals_by_dominance(core, price, order, witness)


def strict_rows(many, order, witness):
    """The list of the rows of order at (filling, led filling)."""
    check_many(many)
    check_order(many, order)
    check_witness(many, witness)
    return rows_of_strict(order, witness)


def unmet(many, known, row, goals):
    """The list of the keys of those goals that are not met without papers."""
    check_many(many)
    _check_known(many, known)
    check_row(many, row)
    if not isinstance(goals, dict) or not all([is_row_of(many, goals[key]) for key in goals]):
        raise BadNamed("goals are a dict whose values are rows")
    ground = Ground([known[name] for name in sorted(known)] + [opposite_row(row)])
    return [key for key in goals if not ground.meets(goals[key])]


def are_papers_form(thing):
    """Whether thing is a dict from keys to derivations by their form, whatever the goals are."""
    return isinstance(thing, dict) and all([is_key_form(key) and is_derivation_form(thing[key]) for key in thing])


def is_key_form(thing):
    if not is_worded(LONE_KEYS, NUMBERED_KEYS, thing):
        return False
    return len(thing) == 1 or is_id(thing[1])


def _check_parts(many, known, price, order, row, witness):
    check_many(many)
    _check_known(many, known)
    check_price(many, price)
    check_order(many, order)
    check_row(many, row)
    check_witness(many, witness)


def _check_known(many, known):
    if not isinstance(known, dict):
        raise BadNamed("known rows are a dict from numbers to rows")
    rows_by_name(many, known)


def goals_by_witness(known, price, order, row, witness):
    goals = _row_goals(known, witness)
    goals[("own",)] = row_led(witness, row)
    goals.update(_last_goals(price, order, witness))
    return goals


def goals_by_dominance(core, price, order, witness):
    goals = _row_goals(core, witness)
    goals.update(_last_goals(price, order, witness))
    return goals


def _row_goals(rows, witness):
    goals = {}
    changed = {index + 1: True for index, image in enumerate(witness) if image != index + 1}
    for name in sorted(rows):
        if name != 0:
            # Most witnesses leave most variables, and so most rows, as they are.
            stays = not any([abs(literal) in changed for _, literal in rows[name][0]])
            goals[("row", name)] = rows[name] if stays else row_led(witness, rows[name])
    return goals


def _last_goals(price, order, witness):
    goals = {("price",): _price_goal(price[0], witness)}
    for index, row in enumerate(rows_of_order(order, witness, unchanged(len(witness)))):
        goals[("order", index)] = row
    return goals


def _price_goal(terms, witness):
    """The row that holds where the led price is not above the price."""
    sums = list(terms)
    bound = 0
    for weight, literal in terms:
        image = image_of(witness, literal)
        if image == "yes":
            bound = bound + weight
        elif image != "no":
            sums.append((-weight, image))
    return normal_row(sums, bound)


def rows_of_strict(order, witness):
    return rows_of_order(order, unchanged(len(witness)), witness)


def assumed_rows(known, row):
    """The dict of the known rows, whose names are ids, and the opposite of row."""
    assumed = {name: known[name] for name in known}
    assumed[OF_ROW] = opposite_row(row)
    return assumed


class Ground:
    """Assumed rows, a list, and what follows from them."""

    def __init__(self, rows):
        self.rows = rows
        self.there = {row: True for row in rows}
        # Most goals are there, so that nothing need be followed for them.
        self.course = None

    def meets(self, goal):
        if goal[1] == 0 or goal in self.there or is_covered(goal, self.rows):
            return True
        return self.refutes([opposite_row(goal)])

    def refutes(self, rows):
        """Whether the assumed rows, and rows behind them, are refuted by following."""
        if self.course is None:
            self.course = Course(self.rows, ())
            self.course.follow()
        _, clash = self.course.joined(rows).follow()
        return clash is not None


def are_met(many, assumed, goals, papers):
    """Whether papers are derivations for some of goals, and the other goals are met without papers."""
    if not isinstance(papers, dict):
        return False
    for key in papers:
        if not _is_key(goals, key) or not _is_met_by(many, assumed, goals[key], papers[key]):
            return False
    ground = Ground([assumed[name] for name in assumed])
    for key in goals:
        if key not in papers and not ground.meets(goals[key]):
            return False
    return True


def _is_key(goals, thing):
    # Python takes ("row", True) for ("row", 1), so that being in goals is not enough.
    if not isinstance(thing, tuple) or not all([isinstance(part, str) or is_number(part) for part in thing]):
        return False
    return thing in goals


def _is_met_by(many, assumed, goal, derivation):
    return _is_refuted(many, assumed, {OF_GOAL: opposite_row(goal)}, derivation)


def is_strict(many, assumed, rows, papers):
    """Whether the assumed rows and the strict rows are refuted, by the paper if there is one for that."""
    if STRICT not in papers:
        return Ground([assumed[name] for name in assumed]).refutes(rows)
    return _is_refuted(many, assumed, {OF_STRICT - index: row for index, row in enumerate(rows)}, papers[STRICT])


def _is_refuted(many, assumed, more, derivation):
    rows = {name: assumed[name] for name in assumed}
    rows.update(more)
    row, _ = end_of(many, rows, derivation)
    return row is not None and bound_is_above(row)
