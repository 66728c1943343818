"""Plain logs, which a judge reads that neither follows nor covers."""
from witnesslog.checks import is_list
from witnesslog.goals import OF_GOAL, OF_STRICT, STRICT, assumed_rows
from witnesslog.goals import goals_by_dominance, goals_by_witness, rows_of_strict
from witnesslog.judge import Judge, judged
from witnesslog.orders import order_along
from witnesslog.problems import check_problem
from witnesslog.rows import is_covered, opposite_row
from witnesslog.trails import clash_steps


def is_plain(problem, thing):
    """Whether thing is a log without following, and with papers for all goals."""
    check_problem(problem)
    if not is_list(thing):
        return False
    judge = Judge(problem)
    for step in thing:
        ahead = judge.copy()
        if not judge.reads(step) or step[0] == "follow":
            return False
        if _has_papers(step) and not all([key in step[-1] for key in Task(ahead, step).asked()]):
            return False
    return True


def plain(problem, log):
    """A plain log of as many steps, behind each of which the judge stands as it does in log."""
    steps = judged(problem, log).log()
    judge = Judge(problem)
    told = []
    for step in steps:
        told.append(_plain_step(judge, step))
        judge.step(told[-1])
    return told


class Task:
    """What a step asks of its papers: the assumed rows by their names, the goals, and the strict rows.

    Strict is a dict of the strict rows by their names, or None if the step has no strict goal.
    """

    def __init__(self, judge, step):
        self.strict = None
        price, order = judge.problem.price, judge.order()
        if step[0] == "order":
            first, second, along = order_along(step[1])
            self.ground = dict(enumerate(first + second))
            self.goals = {("along", index): row for index, row in enumerate(along)}
        elif step[0] == "dominate":
            self.ground = assumed_rows(judge.known(), step[1])
            self.goals = goals_by_dominance(judge.core(), price, order, step[2])
            rows = rows_of_strict(order, step[2])
            self.strict = {OF_STRICT - index: row for index, row in enumerate(rows)}
        else:
            known, row = judge.known(), step[1]
            if step[0] == "leave":
                row = judge.core_rows[step[1]]
                known = judge.known_but_for(step[1])
            self.ground = assumed_rows(known, row)
            self.goals = goals_by_witness(known, price, order, row, step[2])

    def asked(self):
        """The list of the keys for which there have to be papers."""
        found = list(self.goals)
        if self.strict is not None:
            found.append(STRICT)
        return found


def _plain_step(judge, step):
    """The plain step for a step that judge lets by."""
    if step[0] == "follow":
        return ("refute", step[1], _refuting(assumed_rows(judge.known(), step[1])))
    if _has_papers(step):
        return step[:-1] + (_all_papers(Task(judge, step), step[-1]),)
    return step


def _has_papers(step):
    return step[0] in ("witness", "dominate", "order") or step[0] == "leave" and len(step) == 4


def _all_papers(task, papers):
    """The papers, and derivations for all goals that have none there, by ascending keys."""
    found = {key: papers[key] for key in papers}
    names = {row: name for name, row in task.ground.items()}
    for key, goal in task.goals.items():
        if key not in found:
            found[key] = _paper_for(task.ground, names, goal)
    if task.strict is not None and STRICT not in found:
        found[STRICT] = _refuting(_joined(task.ground, task.strict))
    return {key: found[key] for key in sorted(found)}


def _paper_for(assumed, names, goal):
    """The derivation for a goal that is met without papers; names has a name for each assumed row."""
    if goal[1] == 0:
        # Its opposite is impossible.
        return (("row", OF_GOAL),)
    if goal in names:
        return _by_covering(names[goal])
    for name, row in assumed.items():
        if is_covered(goal, [row]):
            return _by_covering(name)
    return _refuting(_joined(assumed, {OF_GOAL: opposite_row(goal)}))


def _by_covering(name):
    return (("row", name), ("row", OF_GOAL), ("sum",))


def _joined(rows, more):
    found = dict(rows)
    found.update(more)
    return found


def _refuting(rows):
    """The derivation of an impossible row from rows, a dict, which are refuted by following in its sequence."""
    names = list(rows)
    told = clash_steps(list(rows.values()), ())
    return tuple([("row", names[one[1]]) if one[0] == "row" else one for one in told])
