"""Refutations of rows, and papers for rows that follow."""
from witnesslog.checks import are_terms_of, check_few, check_literals, check_many, check_row, check_rows
from witnesslog.derivations import end_of, rows_by_name
from witnesslog.errors import BadTerms
from witnesslog.fillings import where
from witnesslog.papers import check_goal
from witnesslog.rows import bound_is_above, holds_at, places_of, slack_under, sum_at, weight_sum

MOST_REFUTED = 10
MOST_FOLLOWED = 8
MOST_CLIMBED = 40

# Instructions that put ((), 0).
NOTHING = (("literal", 1), ("capped",))


def clause_of(many, row, literals):
    """The derivation of the clause by which row bars under literals, and that clause; None if it does not bar."""
    check_many(many)
    check_row(many, row)
    check_literals(many, literals)
    if slack_under(row, literals) >= 0:
        return None
    return (clause_steps(0, row, literals), clause_by(row, literals))


def is_refutation(many, named, thing):
    """Whether thing is a derivation from named that ends in an impossible row."""
    check_many(many)
    row, _ = end_of(many, rows_by_name(many, named), thing)
    return row is not None and bound_is_above(row)


def refutation(many, rows):
    """("none", derivation) that ends in ((), 1), or ("some", filling) at which all rows hold."""
    check_many(many)
    check_rows(many, rows)
    check_few(many, MOST_REFUTED)
    found = where(many, rows)
    if found:
        return ("some", found[0])
    return ("none", tuple(refuted_steps(rows)))


def follows(many, rows, goal):
    """("paper", paper) that ends in goal, or ("filling", filling) at which the rows hold and goal does not."""
    check_many(many)
    check_rows(many, rows)
    check_goal(many, goal)
    check_few(many, MOST_FOLLOWED)
    check_few(max(weight_sum(goal[0]), goal[1]), MOST_CLIMBED)
    for filling in where(many, rows):
        if not holds_at(goal, filling):
            return ("filling", filling)
    return ("paper", _climbed(rows, goal))


def least_of(many, rows, terms):
    """("least", number, filling, paper) of what terms come to, or ("none", derivation) as refutation tells it."""
    check_many(many)
    check_rows(many, rows)
    if not are_terms_of(many, terms):
        raise BadTerms("terms are a tuple of pairs of a weight and a literal")
    check_few(many, MOST_FOLLOWED)
    check_few(weight_sum(terms), MOST_CLIMBED)
    found = where(many, rows)
    if not found:
        return refutation(many, rows)
    sums = [sum_at(terms, filling) for filling in found]
    least = min(sums)
    return ("least", least, found[sums.index(least)], _climbed(rows, (terms, least)))


def clause_steps(name, row, given):
    """Instructions to the clause of row, which has this name and bars under the literals given."""
    return [("row", name)] + steps_to_clause(row, given)


def steps_to_clause(row, given):
    """Instructions that make its clause of row, which bars under the literals given and is on the stack."""
    steps = []
    bound = row[1]
    for weight, literal in row[0]:
        if -literal not in given:
            steps.append(("weakened", abs(literal)))
            bound = bound - weight
    steps.extend([("capped",), ("divided", bound)])
    return steps


def blamed_by(row, given):
    """Those of the literals given whose opposites stand in row, by ascending size."""
    return [-literal for _, literal in row[0] if -literal in given]


def clause_by(row, given):
    """The clause of row, which bars under the literals given."""
    return clause_of_opposites(blamed_by(row, given))


def clause_of_opposites(literals):
    """The row that says that not all of literals, which are of unlike variables, are worth 1."""
    opposites = {abs(literal): -literal for literal in literals}
    return (tuple([(1, opposites[size]) for size in sorted(opposites)]), 1)


def first_barring(rows, given):
    for index, row in enumerate(rows):
        if slack_under(row, given) < 0:
            return index
    return None


def refuted_steps(rows):
    """Instructions to ((), 1) from rows that all hold at no filling."""
    steps, _ = _refuted(rows, places_of(rows), [slack_under(row, ()) for row in rows], ())
    return steps


def _refuted(rows, places, slacks, chosen):
    """Instructions to a clause of the opposites of some of chosen, and the list of these.

    The variables are chosen one after the other; at no filling all rows hold, so that some row bars at last. slacks
    are those of the rows under chosen, and places tells where a literal stands in them.
    """
    barring = [index for index, left in enumerate(slacks) if left < 0]
    if barring:
        row = rows[barring[0]]
        return (clause_steps(barring[0], row, chosen), blamed_by(row, chosen))
    literal = len(chosen) + 1
    steps, blamed = _refuted(rows, places, _slacks_with(slacks, places, literal), chosen + (literal,))
    if literal not in blamed:
        return (steps, blamed)
    others, more = _refuted(rows, places, _slacks_with(slacks, places, -literal), chosen + (-literal,))
    if -literal not in more:
        return (others, more)
    return (steps + others + [("sum",), ("divided", 2)], _both_blamed(chosen, blamed, more))


def _slacks_with(slacks, places, literal):
    """The slacks with one more literal given."""
    left = list(slacks)
    for index, weight in places.get(-literal, []):
        left[index] -= weight
    return left


def _both_blamed(chosen, blamed, more):
    return [literal for literal in chosen if literal in blamed or literal in more]


def _climbed(rows, goal):
    """A paper from rows that ends in goal, which follows: its terms come to 0, to 1, and so on to its bound."""
    terms, bound = goal
    climb = Climb(rows, terms)
    paper = [tuple(list(NOTHING) + _added(terms))]
    for number in range(1, bound + 1):
        steps, _ = climb.branch(number, ())
        paper.append(tuple(steps))
    return tuple(paper)


def _added(terms):
    """Instructions that add the literals of terms, with their weights, to the upper row."""
    steps = []
    for weight, literal in terms:
        steps.extend([("literal", literal), ("times", weight), ("sum",)])
    return steps


class Climb:
    """The way from "terms come to number - 1", the row named last, to "terms come to number".

    A branch has some chosen literals. It leads to the row "terms, and the opposites of some of chosen, come to
    number", and tells which of chosen these are. As that is so to the very weights and bound, the branch without
    chosen literals ends in the row that is wanted.
    """

    def __init__(self, rows, terms):
        self.rows = rows
        self.terms = terms
        # The same branches come for each number, and the same rows bar in them.
        self.barring = {}

    def branch(self, number, chosen):
        if chosen not in self.barring:
            self.barring[chosen] = first_barring(self.rows, chosen)
        index = self.barring[chosen]
        if index is not None:
            return self.by_row(number, chosen, index)
        if sum([weight for weight, literal in self.terms if literal in chosen]) >= number:
            return self.by_terms(number, chosen)
        literal = len(chosen) + 1
        steps, used = self.branch(number, chosen + (literal,))
        if literal not in used:
            return (steps, used)
        others, more = self.branch(number, chosen + (-literal,))
        if -literal not in more:
            return (others, more)
        both = _both_blamed(chosen, used, more)
        # Made alike, the two rows differ in the opposite of literal and in literal, which are 1 together.
        told = steps + _alike(both, used) + others + _alike(both, more) + [("sum",), ("divided", 2)]
        return (told, both)

    def by_row(self, number, chosen, index):
        row = self.rows[index]
        last = len(self.rows) + number - 1
        return (clause_steps(index, row, chosen) + [("row", last), ("sum",)], blamed_by(row, chosen))

    def by_terms(self, number, chosen):
        """By the chosen literals of terms, which come to number just now.

        Let m be the greatest weight of them. By literals alone, terms and m times the opposite of each of them come
        to number; this and m - 1 times the last row, divided by m, is the row. It has no greater bound, as without
        the last one chosen they do not come to number.
        """
        pairs = [pair for pair in self.terms if pair[1] in chosen]
        most = max([weight for weight, _ in pairs])
        steps = list(NOTHING)
        steps.extend(_added([pair for pair in self.terms if pair not in pairs]))
        steps.extend(_added([(most - weight, -literal) for weight, literal in pairs if weight < most]))
        if most > 1:
            steps.extend([("row", len(self.rows) + number - 1), ("times", most - 1), ("sum",)])
        steps.append(("divided", most))
        return (steps, [literal for _, literal in pairs])


def _alike(wanted, used):
    """Instructions that add the opposites of those wanted literals that are not used yet."""
    return _added([(1, -literal) for literal in wanted if literal not in used])
