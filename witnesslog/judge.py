"""The judge, which reads a log step by step, and believes nothing else."""
from witnesslog.checks import MOST_VARIABLES, is_id, is_list, is_literal_of, is_number, is_number_between
from witnesslog.checks import is_pair, is_row_of, is_short_row
from witnesslog.derivations import end_of, is_derivation_form
from witnesslog.errors import BadJudge, BadLog, BadStep
from witnesslog.following import clashes
from witnesslog.goals import STRICT, are_met, are_papers_form, assumed_rows, is_strict
from witnesslog.goals import goals_by_dominance, goals_by_witness, rows_of_strict
from witnesslog.orders import MOST_LITERALS, MOST_ORDER_ROWS, NO_ORDER, is_order_of, order_along, rows_of_order
from witnesslog.problems import MOST_OF_PROBLEM, check_problem, is_plan_of, price_at, row_of_prices
from witnesslog.rows import bound_is_above
from witnesslog.witnesses import is_witness_of, unchanged

# How many items there are in a step of each kind, its word included.
LENGTHS = {"derive": (2,), "follow": (2,), "refute": (3,), "plan": (2,), "new": (1,), "core": (2,), "leave": (2, 4),
           "witness": (4,), "dominate": (4,), "order": (3,)}


class Judge:
    """What is known of a problem by the steps of a log that were let by."""

    def __init__(self, problem):
        check_problem(problem)
        self.problem = problem
        self.many = problem.many
        self.best = None
        self.core_rows = {index + 1: row for index, row in enumerate(problem.rows)}
        self.derived_rows = {}
        self.next_id = len(problem.rows) + 1
        self.present_order = NO_ORDER
        # The rows that left the core, with their witnesses.
        self.gone = []
        self.steps = []

    def __eq__(self, other):
        return (isinstance(other, Judge) and self.problem == other.problem and self.many == other.many
                and self.best == other.best and self.core_rows == other.core_rows
                and self.derived_rows == other.derived_rows and self.present_order == other.present_order
                and self.next_id == other.next_id and self.gone == other.gone)

    def __len__(self):
        return len(self.steps)

    def core(self):
        return {name: self.core_rows[name] for name in sorted(self.core_rows)}

    def derived(self):
        return {name: self.derived_rows[name] for name in sorted(self.derived_rows)}

    def known(self):
        return self.with_prices(self.core_rows, self.derived_rows)

    def order(self):
        return self.present_order

    def log(self):
        return [_kept_step(step) for step in self.steps]

    def copy(self):
        judge = Judge(self.problem)
        judge.many = self.many
        judge.best = self.best
        judge.core_rows = dict(self.core_rows)
        judge.derived_rows = dict(self.derived_rows)
        judge.next_id = self.next_id
        judge.present_order = self.present_order
        judge.gone = list(self.gone)
        judge.steps = list(self.steps)
        return judge

    def step(self, step):
        if not self.reads(step):
            raise BadStep("the step is not let by")

    def reads(self, step):
        """Whether the step, any value, is let by; if it is, it is written down."""
        if not _has_form(step) or not self.lets_by(step):
            return False
        self.steps.append(_kept_step(step))
        return True

    def lets_by(self, step):
        """Whether the step is let by; if it is, what comes of it is done."""
        word = step[0]
        if word == "plan":
            return self.takes_plan(step[1])
        if word == "new":
            return self.grows()
        if word == "core":
            return self.takes_to_core(step[1])
        if word == "leave":
            return self.leaves(step)
        if word == "order":
            return self.takes_order(step[1], step[2])
        row = self.row_by(step)
        if row is None:
            return False
        self.derived_rows[self.next_id] = row
        self.next_id += 1
        return True

    def row_by(self, step):
        """The row that comes to derived by the step, None if it is not let by."""
        if step[0] == "derive":
            row, _ = end_of(self.many, self.known(), step[1])
            return row
        if is_row_of(self.many, step[1]) and self.may_come(step):
            return step[1]
        return None

    def may_come(self, step):
        word, row = step[0], step[1]
        assumed = assumed_rows(self.known(), row)
        if word == "follow":
            return clashes(list(assumed.values()), ())
        if word == "refute":
            end, _ = end_of(self.many, assumed, step[2])
            return end is not None and bound_is_above(end)
        if not is_witness_of(self.many, step[2]):
            return False
        if word == "witness":
            return self.is_witnessed(self.known(), row, step[2], step[3])
        return self.is_dominated(assumed, step[2], step[3])

    def is_witnessed(self, known, row, witness, papers):
        goals = goals_by_witness(known, self.problem.price, self.present_order, row, witness)
        return are_met(self.many, assumed_rows(known, row), goals, papers)

    def is_dominated(self, assumed, witness, papers):
        if not isinstance(papers, dict):
            return False
        goals = goals_by_dominance(self.core_rows, self.problem.price, self.present_order, witness)
        others = {key: papers[key] for key in papers if key != STRICT}
        if not are_met(self.many, assumed, goals, others):
            return False
        return is_strict(self.many, assumed, rows_of_strict(self.present_order, witness), papers)

    def takes_plan(self, filling):
        if not is_plan_of(self.problem, filling):
            return False
        price = price_at(self.problem, filling)
        if self.best is not None and price >= self.best:
            return False
        self.best = price
        return True

    def grows(self):
        if self.many >= MOST_OF_PROBLEM:
            return False
        self.many += 1
        return True

    def takes_to_core(self, names):
        if not isinstance(names, tuple) or len(names) == 0 or not all([self.is_derived(name) for name in names]):
            return False
        if list(names) != sorted(set(names)):
            return False
        for name in names:
            self.core_rows[name] = self.derived_rows[name]
            del self.derived_rows[name]
        return True

    def is_derived(self, thing):
        return is_number(thing) and thing in self.derived_rows

    def leaves(self, step):
        name = step[1]
        if len(step) == 2:
            if not self.is_derived(name):
                return False
            del self.derived_rows[name]
            return True
        witness = step[2]
        if not is_number(name) or name not in self.core_rows or not is_witness_of(self.many, witness):
            return False
        row = self.core_rows[name]
        if not self.is_witnessed(self.known_but_for(name), row, witness, step[3]):
            return False
        del self.core_rows[name]
        self.gone.append((row, witness))
        return True

    def takes_order(self, order, papers):
        if len(self.derived_rows) > 0 or not is_order_of(self.many, order):
            return False
        same = unchanged(self.many)
        # What holds at each filling has no bound above 0.
        if not all([bound == 0 for _, bound in rows_of_order(order, same, same)]):
            return False
        first, second, along = order_along(order)
        goals = {("along", index): row for index, row in enumerate(along)}
        if not are_met(3 * len(order[0]), dict(enumerate(first + second)), goals, papers):
            return False
        self.present_order = order
        return True

    def known_but_for(self, name):
        """The known rows if they were the other core rows and 0 alone."""
        others = {other: self.core_rows[other] for other in self.core_rows if other != name}
        return self.with_prices(others, {})

    def with_prices(self, rows, more):
        """The dict of rows and more, and of the row of prices below best, by ascending id."""
        found = {}
        if self.best is not None:
            found[0] = row_of_prices(self.problem, self.best - 1)
        for name in sorted(list(rows) + list(more)):
            if name in rows:
                found[name] = rows[name]
            else:
                found[name] = more[name]
        return found


def judged(problem, log):
    """The judge behind all steps of log."""
    judge, index = read_by(problem, log)
    if index is not None:
        raise BadLog(index)
    return judge


def is_log(problem, thing):
    """Whether thing is a list of steps that are all let by."""
    _, index = read_by(problem, thing)
    return index is None


def check_judge(judge):
    if not isinstance(judge, Judge):
        raise BadJudge("no judge")


def check_read(judge, index, step):
    """Let judge read the step with this index of a log."""
    if not judge.reads(step):
        raise BadLog(index)


def read_by(problem, thing):
    """A judge that read the steps of thing up to the first that is not let by, and the index of that, or None."""
    judge = Judge(problem)
    if not is_list(thing):
        return (judge, 0)
    for index, step in enumerate(thing):
        if not judge.reads(step):
            return (judge, index)
    return (judge, None)


def _has_form(thing):
    """Whether thing is a tuple of as many items as a step of its kind."""
    if not isinstance(thing, tuple) or len(thing) == 0 or not isinstance(thing[0], str):
        return False
    return thing[0] in LENGTHS and len(thing) in LENGTHS[thing[0]]


def _kept_step(step):
    """The step with lists and dicts of its own, the dicts with ascending keys."""
    return tuple([_kept(part) for part in step])


def _kept(part):
    if isinstance(part, list):
        return list(part)
    if isinstance(part, dict):
        return {key: _kept(part[key]) for key in sorted(part)}
    return part


def is_step_form(thing):
    """Whether thing is a step by its form, no matter whether it is let by."""
    if not _has_form(thing):
        return False
    if thing[0] == "leave" and len(thing) == 4:
        return is_id(thing[1]) and _are_images(thing[2]) and are_papers_form(thing[3])
    return len(thing) == 1 or _has_right_parts(thing)


def _has_right_parts(step):
    word, first = step[0], step[1]
    if word == "derive":
        return is_derivation_form(first)
    if word == "plan":
        return _is_filling_form(first)
    if word == "core":
        return _are_ids(first)
    if word == "leave":
        return is_id(first)
    if word == "order":
        return _is_order_form(first) and are_papers_form(step[2])
    if not is_short_row(MOST_VARIABLES, first):
        return False
    if word == "refute":
        return is_derivation_form(step[2])
    return word == "follow" or _are_images(step[2]) and are_papers_form(step[3])


def _is_filling_form(thing):
    if not isinstance(thing, tuple) or not 1 <= len(thing) <= MOST_OF_PROBLEM:
        return False
    return all([is_number_between(0, item, 1) for item in thing])


def _are_ids(thing):
    if not isinstance(thing, tuple) or not 1 <= len(thing) <= MOST_OF_PROBLEM:
        return False
    return all([is_id(item) for item in thing])


def _are_images(thing):
    if not isinstance(thing, tuple) or not 1 <= len(thing) <= MOST_OF_PROBLEM:
        return False
    return all([is_literal_of(MOST_VARIABLES, image) or image in ("yes", "no") for image in thing])


def _is_order_form(thing):
    if not is_pair(thing) or not isinstance(thing[0], tuple) or not isinstance(thing[1], tuple):
        return False
    literals, rows = thing
    if len(literals) > MOST_LITERALS or len(rows) > MOST_ORDER_ROWS:
        return False
    return (all([is_literal_of(MOST_VARIABLES, literal) for literal in literals])
            and all([is_short_row(MOST_VARIABLES, row) for row in rows]))
