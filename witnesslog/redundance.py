"""Steps for rows that are not needed, for variables that go, and for variables that come."""
from witnesslog.checks import check_few, check_literal, is_literal_of, is_number, is_number_between, is_row_of
from witnesslog.errors import BadId, BadLiteral, BadRow, BadVariable, NotEliminated, NotEqual
from witnesslog.judge import check_judge
from witnesslog.problems import MOST_OF_PROBLEM
from witnesslog.rows import bound_is_above, is_covered, opposite_row
from witnesslog.witnesses import unchanged, unchanged_but_for

MOST_PAIRS = 400


def pure_literals(judge):
    """The ascending list of the literals that nothing speaks against."""
    check_judge(judge)
    return [literal for literal in range(-judge.many, judge.many + 1) if literal != 0 and _is_pure(judge, literal)]


def pure_steps(judge, literal):
    """The step by which a pure literal is worth 1."""
    check_judge(judge)
    if not is_literal_of(judge.many, literal) or not _is_pure(judge, literal):
        raise BadLiteral("the literal is not pure")
    return [("witness", (((1, literal),), 1), unchanged_but_for(judge.many, literal, "yes"), {})]


def covered_steps(judge):
    """The steps by which all rows go that are covered by another one, core rows by one of the core."""
    check_judge(judge)
    core = judge.core()
    left = judge.derived()
    left.update(core)
    steps = []
    names = sorted(left, reverse=True)
    for name in names:
        others = [left[other] for other in left if other != name and (other in core or name not in core)]
        if is_covered(left[name], others):
            del left[name]
            if name in core:
                steps.append(("leave", name, unchanged(judge.many), {}))
            else:
                steps.append(("leave", name))
    return steps


def blocked_literals(judge, row_id):
    """The literals of a core row, each of which, led to "yes", lets the row leave."""
    check_judge(judge)
    if not is_number(row_id) or row_id not in judge.core_rows:
        raise BadId("no id of a core row")
    return [literal for _, literal in judge.core_rows[row_id][0]
            if judge.copy().reads(_leaving(judge, row_id, literal))]


def eliminated_steps(judge, variable):
    """The steps behind which no core row has the variable."""
    check_judge(judge)
    if not is_number_between(1, variable, judge.many):
        raise BadVariable("a variable is a number from 1 to many")
    core = judge.core()
    having = [name for name in core if _has_variable(core[name][0], variable)]
    if _is_asked_for(judge, variable) or not all([_is_clause(core[name]) for name in having]):
        raise NotEliminated("the variable cannot be eliminated")
    ones = [name for name in having if (1, variable) in core[name][0]]
    others = [name for name in having if (1, -variable) in core[name][0]]
    check_few(len(ones) * len(others), MOST_PAIRS)
    rows = []
    for one in ones:
        for other in others:
            row = _both_without(core[one], core[other], variable)
            if row is not None and not is_covered(row, list(core.values()) + rows):
                rows.append(row)
    steps = [("follow", row) for row in rows]
    if len(rows) > 0:
        steps.append(("core", tuple(range(judge.next_id, judge.next_id + len(rows)))))
    steps.extend([_leaving(judge, name, variable) for name in ones])
    steps.extend([_leaving(judge, name, -variable) for name in others])
    return steps


def defined_steps(judge, row):
    """The steps by which a new variable comes that is worth 1 exactly if row holds."""
    check_judge(judge)
    if not is_row_of(judge.many, row) or row[1] == 0 or bound_is_above(row):
        raise BadRow("no row that holds at some fillings only")
    new = judge.many + 1
    check_few(new, MOST_OF_PROBLEM)
    terms, bound = row
    other_terms, other_bound = opposite_row(row)
    one = (terms + ((bound, -new),), bound)
    other = (other_terms + ((other_bound, new),), other_bound)
    return [("new",), ("witness", one, unchanged_but_for(new, new, "no"), {}),
            ("witness", other, unchanged_but_for(new, new, "yes"), {})]


def exchanged_steps(judge, literal, other):
    """The steps behind which other stands for literal in all core rows but the two that say that they are equal."""
    check_judge(judge)
    check_literal(judge.many, literal)
    if not is_literal_of(judge.many, other) or abs(other) == abs(literal):
        raise BadLiteral("the other literal is one of another variable")
    core = judge.core()
    # By the literal that each of the two rows takes away where it is added.
    equal = {literal: _least_id(core, _clause_of(-literal, other)),
             -literal: _least_id(core, _clause_of(literal, -other))}
    if equal[literal] is None or equal[-literal] is None:
        raise NotEqual("the literals are not said to be equal")
    steps = []
    new = judge.next_id
    for name in core:
        if name not in (equal[literal], equal[-literal]) and _has_variable(core[name][0], abs(literal)):
            steps.extend(_exchanging(judge, name, _pair_of(core[name], abs(literal)), equal, new))
            new += 1
    return steps


def _exchanging(judge, name, pair, equal, new):
    """The steps by which the row new, without pair, stands in core for the row with this name."""
    weight, literal = pair
    there = (("row", name), ("row", equal[literal]), ("times", weight), ("sum",))
    back = (("row", new), ("row", equal[-literal]), ("times", weight), ("sum",), ("row", -1), ("sum",))
    return [("derive", there), ("core", (new,)), ("leave", name, unchanged(judge.many), {("own",): back})]


def _is_pure(judge, literal):
    if literal in [other for _, other in judge.problem.price[0]] or _is_ordered(judge, literal):
        return False
    rows = list(judge.core_rows.values()) + list(judge.derived_rows.values())
    return not any([-literal in [other for _, other in terms] for terms, _ in rows])


def _is_ordered(judge, literal):
    return literal in judge.order()[0] or -literal in judge.order()[0]


def _leaving(judge, name, literal):
    return ("leave", name, unchanged_but_for(judge.many, literal, "yes"), {})


def _has_variable(terms, variable):
    return variable in [abs(literal) for _, literal in terms]


def _pair_of(row, variable):
    return [pair for pair in row[0] if abs(pair[1]) == variable][0]


def _is_asked_for(judge, variable):
    return _has_variable(judge.problem.price[0], variable) or _is_ordered(judge, variable)


def _is_clause(row):
    return row[1] == 1 and all([weight == 1 for weight, _ in row[0]])


def _both_without(one, other, variable):
    """The clause of all literals of both but those of variable; None if it has a literal and its opposite."""
    literals = {literal: True for _, literal in one[0] + other[0] if abs(literal) != variable}
    if any([-literal in literals for literal in literals]):
        return None
    sizes = sorted([abs(literal) for literal in literals])
    return (tuple([(1, size if size in literals else -size) for size in sizes]), 1)


def _clause_of(one, other):
    if abs(one) < abs(other):
        return (((1, one), (1, other)), 1)
    return (((1, other), (1, one)), 1)


def _least_id(rows, row):
    """The first name of row among rows, a dict; None if there is none."""
    for name in rows:
        if rows[name] == row:
            return name
    return None
