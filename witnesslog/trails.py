"""Trails: literals that are chosen or forced, and derivations of what is seen along them."""
from witnesslog.checks import are_literals_of, are_unlike, check_literals, check_many, check_rows
from witnesslog.checks import is_literal_of, is_number_between, is_pair
from witnesslog.errors import BadChoices, BadLevel, BadSpot, BadTrail
from witnesslog.following import Course
from witnesslog.proving import blamed_by, clause_by, clause_steps


def is_trail(many, rows, thing):
    """Whether thing is a trail from rows."""
    check_many(many)
    check_rows(many, rows)
    return _is_trail_of(many, rows, thing)


def is_whole(many, rows, thing):
    """Whether thing is a trail in which nothing is left to follow ahead of any choice."""
    check_many(many)
    check_rows(many, rows)
    if not _is_trail_of(many, rows, thing):
        return False
    course = Course(rows, ())
    for literal, reason in thing:
        if reason is None and course.news() is not None:
            return False
        course.give(literal)
    return True


def trail_of(many, rows, choices):
    """The trail on which choices are chosen one after the other, and followed, and the clash."""
    check_many(many)
    check_rows(many, rows)
    check_choices(many, choices)
    trail, clash = chosen_trail(rows, choices)
    return (tuple(trail), clash)


def levels(many, rows, trail):
    """How many pairs of trail there are of each level."""
    check_many(many)
    check_rows(many, rows)
    check_trail(many, rows, trail)
    counts = [0]
    for _, reason in trail:
        if reason is None:
            counts.append(0)
        counts[-1] += 1
    return counts


def literals_to(many, rows, trail, level):
    """The literals of the pairs of this level or less."""
    check_many(many)
    check_rows(many, rows)
    check_trail(many, rows, trail)
    if not is_number_between(0, level, greatest_level(trail)):
        raise BadLevel("a level is a number from 0 to the greatest one of the trail")
    return tuple([literal for literal, _ in pairs_to(trail, level)])


def reason_row(many, rows, trail, spot):
    """The clause of the literal at spot and of those literals of its reason that are worth 0 ahead of it."""
    check_many(many)
    check_rows(many, rows)
    check_trail(many, rows, trail)
    check_spot(trail, spot)
    reason = rows[trail[spot][1]]
    return clause_by(reason, _barred_at(trail, spot))


def reason_paper(many, rows, trail, spot):
    """A derivation from rows that ends in reason_row."""
    check_many(many)
    check_rows(many, rows)
    check_trail(many, rows, trail)
    check_spot(trail, spot)
    index = trail[spot][1]
    return clause_steps(index, rows[index], _barred_at(trail, spot))


def clash_paper(many, rows, literals):
    """A derivation of a clause of opposites of some of literals, from which following clashes; or None."""
    check_many(many)
    check_rows(many, rows)
    check_literals(many, literals)
    return clash_steps(rows, literals)


def clash_steps(rows, literals):
    """As clash_paper, for any number of rows."""
    course = Course(rows, literals)
    steps, clash = course.follow()
    if clash is None:
        return None
    given = dict(course.given)
    told = clause_steps(clash, rows[clash], given)
    blamed = {literal: True for literal in blamed_by(rows[clash], given)}
    for literal, index in reversed(steps):
        del given[literal]
        if literal in blamed:
            blamed.update({other: True for other in blamed_by(rows[index], given)})
            # The reason of literal bars under what is ahead of it and its opposite.
            given[-literal] = True
            told.extend(clause_steps(index, rows[index], given))
            told.extend([("sum",), ("divided", 2)])
            del given[-literal]
    return told


def choices_behind(rows, trail, blamed):
    """The list of the chosen literals of trail from which the literals blamed, of trail too, follow."""
    marked = {literal: True for literal in blamed}
    given = {literal: True for literal, _ in trail}
    for literal, reason in reversed(trail):
        del given[literal]
        if literal in marked and reason is not None:
            marked.update({other: True for other in blamed_by(rows[reason], given)})
    return [literal for literal, reason in trail if reason is None and literal in marked]


class Path:
    """What follows from the rows, then the first choice and what follows from it, and so on.

    pairs are those of a trail: literals and the indexes of the rows that forced them; barring is the index of the row
    that bars at its end, or None.
    """

    def __init__(self, rows, choices):
        self.rows = list(rows)
        self.pairs = []
        self.barring = None
        # For each level what has been followed to its end, and, but for the last level, how many pairs there were then.
        self.courses = [Course(list(rows), ())]
        self.ends = []
        self.follow()
        for literal in choices:
            self.choose(literal)

    def follow(self):
        steps, self.barring = self.courses[-1].follow()
        self.pairs.extend(steps)

    def choose(self, literal):
        course = self.whole_course()
        course.give(literal)
        self.ends.append(len(self.pairs))
        self.courses.append(course)
        self.pairs.append((literal, None))
        self.follow()

    def whole_course(self):
        """A course of its own like the last one, with the rows that came when there were more levels.

        These rows had nothing to say at the levels that are left.
        """
        course = self.courses[-1]
        return course.joined(self.rows[len(course.rows):])

    def go_back(self, level):
        if level < len(self.ends):
            del self.pairs[self.ends[level]:]
            del self.ends[level:]
            del self.courses[level + 1:]
            self.barring = None

    def learn(self, row, level):
        """Go back to level, and follow on from there with row behind the others."""
        self.rows.append(row)
        self.go_back(level)
        self.courses[-1] = self.whole_course()
        self.follow()

    def clashes_with(self, literals):
        """Whether following from literals, and no choices, clashes; all choices are gone then."""
        self.go_back(0)
        course = self.whole_course()
        for literal in literals:
            if -literal in course.given:
                return True
            if literal not in course.given:
                course.give(literal)
                _, clash = course.follow()
                if clash is not None:
                    return True
        return False

    def taken(self):
        """The literals of the trail, for the keys of a dict, which is not to be changed."""
        return self.courses[-1].given


def check_choices(many, choices):
    if not are_literals_of(many, choices):
        raise BadChoices("choices are a list of literals")


def check_trail(many, rows, trail):
    if not _is_trail_of(many, rows, trail):
        raise BadTrail("a trail is a tuple of pairs of a literal and its reason")


def check_spot(trail, spot):
    if not is_number_between(0, spot, len(trail) - 1) or trail[spot][1] is None:
        raise BadSpot("a spot is the index of a pair whose literal is not chosen")


def _is_trail_of(many, rows, thing):
    if not isinstance(thing, tuple) or not all([_is_trail_pair(many, rows, pair) for pair in thing]):
        return False
    if not are_unlike([literal for literal, _ in thing]):
        return False
    course = Course(rows, ())
    for literal, reason in thing:
        if reason is not None and literal not in course.forced_by(reason):
            return False
        course.give(literal)
    return True


def _is_trail_pair(many, rows, thing):
    if not is_pair(thing) or not is_literal_of(many, thing[0]):
        return False
    return thing[1] is None or is_number_between(0, thing[1], len(rows) - 1)


def chosen_trail(rows, choices):
    """The list of the pairs of the trail that trail_of tells, and the clash."""
    course = Course(rows, ())
    trail, clash = course.follow()
    for choice in choices:
        if clash is None and course.is_free(choice):
            trail.append((choice, None))
            course.give(choice)
            steps, clash = course.follow()
            trail.extend(steps)
    return (trail, clash)


def greatest_level(trail):
    return len([literal for literal, reason in trail if reason is None])


def pairs_to(trail, level):
    """The list of the pairs of trail that are of this level or less."""
    found = []
    reached = 0
    for pair in trail:
        if pair[1] is None:
            reached += 1
        if reached <= level:
            found.append(pair)
    return found


def _barred_at(trail, spot):
    """The literals under which the reason at spot bars: those ahead of it, and the opposite of its own."""
    return [literal for literal, _ in trail[:spot]] + [-trail[spot][0]]
