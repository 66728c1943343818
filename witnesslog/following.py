"""Following: what rows force under literals, again and again, till one of them bars."""
from heapq import heappop, heappush

from witnesslog.checks import check_literals, check_many, check_row, check_rows, is_list, is_number_from
from witnesslog.errors import BadPicks
from witnesslog.rows import opposite_row, places_of, slack_under


class Course:
    """Rows under literals that are given one after the other."""

    def __init__(self, rows, literals):
        self.rows = rows
        self.slacks = [slack_under(row, ()) for row in rows]
        self.places = places_of(rows)
        self.given = {}
        # A row that does not wait neither bars nor forces anything: it waits again when its slack falls.
        self.waiting = [True] * len(rows)
        # The indexes of the rows that wait, a heap.
        self.queue = list(range(len(rows)))
        for literal in literals:
            self.give(literal)

    def give(self, literal):
        self.given[literal] = True
        for index, weight in self.places.get(-literal, []):
            self.slacks[index] -= weight
            if not self.waiting[index]:
                self.waiting[index] = True
                heappush(self.queue, index)

    def forced_by(self, index):
        """The list of the literals that this row forces, in the sequence of its terms."""
        slack_now = self.slacks[index]
        if slack_now < 0:
            return []
        return [literal for weight, literal in self.rows[index][0] if weight > slack_now and self.is_free(literal)]

    def joined(self, rows):
        """A course of its own, with rows behind those that are here, and the same literals given."""
        course = Course([], ())
        course.rows = list(self.rows) + rows
        course.slacks = self.slacks + [slack_under(row, self.given) for row in rows]
        course.places = dict(self.places)
        for literal, more in places_of(rows).items():
            moved = [(len(self.rows) + index, weight) for index, weight in more]
            course.places[literal] = course.places.get(literal, []) + moved
        course.given = dict(self.given)
        course.waiting = self.waiting + [True] * len(rows)
        # Greater indexes at its end leave a heap a heap.
        course.queue = self.queue + list(range(len(self.rows), len(self.rows) + len(rows)))
        return course

    def is_free(self, literal):
        return literal not in self.given and -literal not in self.given

    def news(self):
        """What the row of least index that bars or forces a literal says, None if there is no such row.

        It is a pair of the first literal that it forces, None if it bars, and its index.
        """
        while self.queue:
            index = self.queue[0]
            if self.slacks[index] < 0:
                return (None, index)
            literals = self.forced_by(index)
            if literals:
                return (literals[0], index)
            self.waiting[index] = False
            heappop(self.queue)
        return None

    def follow(self):
        """Give what follows; the list of the steps, and the clash."""
        steps = []
        said = self.news()
        while said is not None and said[0] is not None:
            steps.append(said)
            self.give(said[0])
            said = self.news()
        if said is None:
            return (steps, None)
        return (steps, said[1])


def slack(many, row, literals):
    """The sum of the weights of row, those aside whose opposites are among literals, less its bound."""
    check_many(many)
    check_row(many, row)
    check_literals(many, literals)
    return slack_under(row, literals)


def forced(many, row, literals):
    """The list of the literals that row forces under literals, in the sequence of its terms."""
    check_many(many)
    check_row(many, row)
    check_literals(many, literals)
    return Course([row], literals).forced_by(0)


def followed(many, rows, literals):
    """What follows from literals, a tuple of pairs (literal, index of the row), and the clash."""
    check_many(many)
    check_rows(many, rows)
    check_literals(many, literals)
    steps, clash = Course(rows, literals).follow()
    return (tuple(steps), clash)


def refuted_by_following(many, rows):
    """Whether following from the empty list clashes."""
    check_many(many)
    check_rows(many, rows)
    return clashes(rows, ())


def known_by_following(many, rows, row):
    """Whether rows, and behind them the opposite of row, are refuted by following."""
    check_many(many)
    check_rows(many, rows)
    check_row(many, row)
    return clashes(list(rows) + [opposite_row(row)], ())


def followed_by(many, rows, literals, picks):
    """As followed, but each next step is picked among all that could come next."""
    check_many(many)
    check_rows(many, rows)
    check_literals(many, literals)
    if not is_list(picks) or not all([is_number_from(0, pick) for pick in picks]):
        raise BadPicks("picks are a list of numbers from 0 on")
    course = Course(rows, literals)
    steps = []
    pairs = _all_pairs(course)
    while pairs:
        pick = picks[len(steps)] if len(steps) < len(picks) else 0
        pair = pairs[pick % len(pairs)]
        steps.append(pair)
        course.give(pair[0])
        pairs = _all_pairs(course)
    barring = [index for index, left in enumerate(course.slacks) if left < 0]
    return (tuple(steps), min(barring, default=None))


def clashes(rows, literals):
    _, clash = Course(rows, literals).follow()
    return clash is not None


def _all_pairs(course):
    return [(literal, index) for index in range(len(course.rows)) for literal in course.forced_by(index)]
