"""A desk, to which rows and assumed literals come, and go, and which is asked for the least price in between."""
from witnesslog.checks import check_few, check_literal, check_many, check_row
from witnesslog.cores import tight_core
from witnesslog.errors import IsAssumed, NoLevel
from witnesslog.least import least
from witnesslog.problems import MOST_OF_PROBLEM, Problem, check_price, is_plan_of
from witnesslog.proving import clause_of_opposites

MOST_PUT = 200
MOST_LEVELS = 60


class Desk:
    """Rows and assumed literals in levels, and what has been told of them."""

    def __init__(self, many, price):
        check_many(many, MOST_OF_PROBLEM)
        check_price(many, price)
        self.many = many
        self.price = price
        self.here = []
        self.chosen = []
        # For each level but 0 how many rows and how many assumed literals there were ahead of it.
        self.marks = []
        self.done = []
        # For each deed of asking the rows and the assumed literals that were here, and what was told.
        self.told = []

    def __eq__(self, other):
        return (isinstance(other, Desk) and self.many == other.many and self.price == other.price
                and self.done == other.done)

    def put(self, row):
        check_row(self.many, row)
        check_few(len(self.here) + 1, MOST_PUT)
        self.here.append(row)
        self.done.append(("put", row))

    def assume(self, literal):
        check_literal(self.many, literal)
        for other in (literal, -literal):
            if other in self.chosen:
                raise IsAssumed(other)
        self.chosen.append(literal)
        self.done.append(("assume", literal))

    def enter(self):
        check_few(len(self.marks) + 1, MOST_LEVELS)
        self.marks.append((len(self.here), len(self.chosen)))
        self.done.append(("enter",))

    def leave(self):
        if len(self.marks) == 0:
            raise NoLevel("there is no level to leave")
        rows, literals = self.marks.pop()
        del self.here[rows:]
        del self.chosen[literals:]
        self.done.append(("leave",))

    def ask(self, ways, guide):
        # What is wrong is refused here, ahead of any change; the log is not told.
        told = least(self.problem(), ways, guide)[:-1]
        self.done.append(("ask", tuple(ways), tuple(guide)))
        self.told.append((tuple(self.here), tuple(self.chosen), told))
        return told

    def problem(self):
        rows = [clause_of_opposites((-literal,)) for literal in self.chosen]
        return Problem(self.many, self.here + rows, self.price)

    def core(self, guide):
        told = tight_core(Problem(self.many, self.here, self.price), tuple(self.chosen), guide)
        if told[0] == "plan":
            return None
        return told[1]

    def level(self):
        return len(self.marks)

    def rows(self):
        return list(self.here)

    def assumed(self):
        return tuple(self.chosen)

    def deeds(self):
        return list(self.done)

    def copy(self):
        desk = Desk(self.many, self.price)
        desk.here = list(self.here)
        desk.chosen = list(self.chosen)
        desk.marks = list(self.marks)
        desk.done = list(self.done)
        desk.told = list(self.told)
        return desk

    def bounds(self):
        at_moments = [told for rows, literals, told in self.told
                      if all([row in self.here for row in rows]) and all([one in self.chosen for one in literals])]
        if ("none",) in at_moments:
            low = "none"
        else:
            low = max([told[1] for told in at_moments], default=None)
        problem = self.problem()
        prices = [told[1] for _, _, told in self.told if told != ("none",) and is_plan_of(problem, told[2])]
        return (low, min(prices, default=None))
