"""Learning at clashes: a row that bars is carried back along a trail, till it says something ahead of it."""
from math import gcd

from witnesslog.checks import check_literals, check_many, check_row, check_rows
from witnesslog.checks import is_literal_of, is_number, is_row_of
from witnesslog.derivations import capped_row, divided_row, end_of
from witnesslog.errors import BadLiteral, BadRow, NoClash
from witnesslog.following import Course, clashes
from witnesslog.proving import blamed_by, clause_by, clause_of_opposites, clause_steps, first_barring, steps_to_clause
from witnesslog.rows import bound_is_above, normal_row, opposite_row, slack_under, weight_sum
from witnesslog.trails import check_trail, greatest_level, pairs_to


def cut_down(many, row, literals, literal):
    """Row, weakened and divided so that literal has the weight 1."""
    _check_cut(many, row, literals, literal)
    return _cut_row(row, literals, literal)


def cut_instructions(many, row, literals, literal):
    """Instructions that leave cut_down on the stack where row was."""
    _check_cut(many, row, literals, literal)
    return _cut_steps(row, literals, literal)


def resolved(many, clash, reason, literals, literal):
    """The row of both, cut down: it bars under literals, as clash does with literal behind them."""
    check_many(many)
    check_row(many, clash)
    check_row(many, reason)
    check_literals(many, literals)
    if not is_literal_of(many, literal) or literal not in Course([reason], literals).forced_by(0):
        raise BadLiteral("the reason does not force the literal")
    if not _has(clash, -literal) or slack_under(clash, list(literals) + [literal]) >= 0:
        raise NoClash("the row does not bar by the opposite of the literal")
    return _resolved_row(clash, reason, literals, literal)


def back_level(many, rows, trail, row):
    """The least level at which row bars or forces a literal."""
    check_many(many)
    check_rows(many, rows)
    check_trail(many, rows, trail)
    check_barring_row(many, trail, row)
    return level_back(trail, row)


def is_learned(many, rows, trail, thing):
    """Whether thing is a triple (row, derivation, level), a learned thing of trail."""
    check_many(many)
    check_rows(many, rows)
    check_trail(many, rows, trail)
    if not isinstance(thing, tuple) or len(thing) != 3:
        return False
    row, derivation, level = thing
    if not is_row_of(many, row) or not is_number(level):
        return False
    if end_of(many, dict(enumerate(rows)), derivation)[0] != row or not _bars_at_end(trail, row):
        return False
    most = greatest_level(trail)
    return level == level_back(trail, row) and (level < most or most == 0 and bound_is_above(row))


def learned(many, rows, trail):
    """A learned thing of trail: (row, derivation, level)."""
    check_many(many)
    check_rows(many, rows)
    check_trail(many, rows, trail)
    if first_barring(rows, _literals_of(trail)) is None:
        raise NoClash("no row bars at the end of the trail")
    row, told = learned_row(rows, trail)
    return (row, told, level_back(trail, row))


def shortened(many, rows, row):
    """A row of some pairs of row, known by following, none of which can go out."""
    check_many(many)
    check_rows(many, rows)
    check_row(many, row)
    if row[1] != 1 or not all([weight == 1 for weight, _ in row[0]]) or not _is_known(rows, row):
        raise BadRow("the weights and the bound are 1, and the row is known by following")
    # With fewer pairs less is known, so that a pair that had to stay has to stay to the end.
    short = row
    for pair in row[0]:
        without = (tuple([other for other in short[0] if other != pair]), 1)
        if _is_known(rows, without):
            short = without
    return short


def check_barring_row(many, trail, row):
    check_row(many, row)
    if not _bars_at_end(trail, row):
        raise NoClash("the row does not bar at the end of the trail")


def level_back(trail, row):
    """The back level of row, which bars under all literals of trail."""
    level = 0
    given = {}
    for literal, reason in trail:
        if reason is None:
            if _speaks(row, given):
                return level
            level += 1
        given[literal] = True
    return level


def learned_clause(rows, trail):
    """As learned_row, but by clauses alone, whose weights never grow: for rows with weights that are too great."""
    left = _literals_of(trail)
    index = first_barring(rows, left)
    told = clause_steps(index, rows[index], left)
    blamed = {literal: True for literal in blamed_by(rows[index], left)}
    most = greatest_level(trail)
    ahead = _literals_of(pairs_to(trail, most - 1))
    for literal, reason in reversed(trail):
        row = clause_of_opposites(list(blamed))
        if _is_enough(row, most, ahead):
            return (row, told)
        del left[literal]
        if literal in blamed:
            del blamed[literal]
            blamed.update({other: True for other in blamed_by(rows[reason], left)})
            # The reason of literal bars under what is ahead of it and its opposite.
            told.extend(clause_steps(reason, rows[reason], list(left) + [-literal]) + [("sum",), ("divided", 2)])
    return (clause_of_opposites(list(blamed)), told)


def learned_row(rows, trail):
    """The row of a learned thing of trail, at whose end some row bars, and instructions to it.

    The row bars under those literals of the trail that are left. Where it does so by the last one of them, this one
    is resolved away. At the last choice, at the latest, the row says something ahead of it.
    """
    left = _literals_of(trail)
    index = first_barring(rows, left)
    row = rows[index]
    told = [("row", index)]
    most = greatest_level(trail)
    ahead = _literals_of(pairs_to(trail, most - 1))
    for literal, reason in reversed(trail):
        if _is_enough(row, most, ahead):
            return (row, told)
        del left[literal]
        if slack_under(row, left) >= 0:
            row, steps = _without_literal(row, reason, rows[reason], left, literal)
            told.extend(steps)
            row, steps = _tidied(row, left)
            told.extend(steps)
    return (row, told)


def _without_literal(clash, name, reason, left, literal):
    """A row of clash and of its reason called name, without literal, and the instructions from clash to it.

    It bars under left, and says as much as can be: if what is added up as it is bars, it is that. Otherwise the reason
    is cut down; its slack is 0 then, so that it may be added as often as it is needed.
    """
    weight = _weight_in(clash, -literal)
    whole, steps = _combined(clash, _weight_in(reason, literal), reason, weight, [("row", name)])
    if whole is not None and slack_under(whole, left) < 0:
        return (whole, steps)
    there = [("row", name)] + _cut_steps(reason, left, literal)
    cut, steps = _combined(clash, 1, _cut_row(reason, left, literal), weight, there)
    if cut is not None:
        return (cut, steps)
    # With clash cut down, too, the numbers do not become greater than they are.
    return (_resolved_row(clash, reason, left, literal), _cut_steps(clash, left, -literal) + there + [("sum",)])


def _combined(clash, one, reason, other, there):
    """The sum of clash, one times, and reason, other times, but for what both numbers are multiples of.

    With it come the instructions from clash, there being those to reason. The row is None if its numbers are great.
    """
    common = gcd(one, other)
    times, more = one // common, other // common
    if max(_greatest(clash) * times, _greatest(reason) * more) >= 10 ** 36:
        return (None, [])
    sums = [(times * weight, literal) for weight, literal in clash[0]]
    sums.extend([(more * weight, literal) for weight, literal in reason[0]])
    row = normal_row(sums, times * clash[1] + more * reason[1])
    return (row, [("times", times)] + there + [("times", more), ("sum",)])


def _greatest(row):
    return max([weight for weight, _ in row[0]] + [row[1]])


def _is_enough(row, most, ahead):
    """Whether row can be learned, ahead being the literals of the levels below most."""
    if most == 0:
        return bound_is_above(row)
    return _speaks(row, ahead)


def _tidied(row, left):
    """Row with smaller weights, which bars under left as row does, and the instructions to it."""
    # So no weight or bound comes to 10 ** 30, and what is learned from learned rows, too, is never too great to be put.
    if row[1] >= 10 ** 30:
        return (clause_by(row, left), steps_to_clause(row, left))
    capped = capped_row(row)
    common = 0
    for weight, _ in capped[0]:
        common = gcd(common, weight)
    if common <= 1:
        return (capped, [("capped",)])
    # The bound is rounded up, so that less may hold.
    return (divided_row(capped, common), [("capped",), ("divided", common)])


def _speaks(row, given):
    """Whether row bars or forces a literal under the literals given, a dict that has them for keys."""
    left = slack_under(row, given)
    if left < 0:
        return True
    for weight, literal in row[0]:
        if weight > left and literal not in given and -literal not in given:
            return True
    return False


def _literals_of(pairs):
    return {literal: True for literal, _ in pairs}


def _bars_at_end(trail, row):
    return slack_under(row, _literals_of(trail)) < 0


def _is_known(rows, row):
    return clashes(list(rows) + [opposite_row(row)], ())


def _check_cut(many, row, literals, literal):
    check_many(many)
    check_row(many, row)
    check_literals(many, literals)
    if not is_literal_of(many, literal) or not _has(row, literal):
        raise BadLiteral("the literal is in no pair of the row")


def _has(row, literal):
    return literal in [other for _, other in row[0]]


def _is_cut(pair, given, divisor):
    """Whether pair goes out of a row that is cut down."""
    weight, literal = pair
    return weight % divisor != 0 and -literal not in given


def _weight_in(row, literal):
    return sum([weight for weight, other in row[0] if other == literal])


def _cut_row(row, given, literal):
    terms, bound = row
    divisor = _weight_in(row, literal)
    kept = tuple([pair for pair in terms if not _is_cut(pair, given, divisor)])
    return divided_row((kept, max(0, bound - weight_sum(terms) + weight_sum(kept))), divisor)


def _cut_steps(row, given, literal):
    divisor = _weight_in(row, literal)
    told = [("weakened", abs(pair[1])) for pair in row[0] if _is_cut(pair, given, divisor)]
    return told + [("divided", divisor)]


def _resolved_row(clash, reason, given, literal):
    # Whether literal itself is among those given does not count: it is cut down by its own pair.
    one = _cut_row(clash, given, -literal)
    other = _cut_row(reason, given, literal)
    return normal_row(one[0] + other[0], one[1] + other[1])
