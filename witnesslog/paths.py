"""The trail along choices, of which as much is kept as can be when choices go and rows come."""
from witnesslog.following import Course


class Path:
    """What follows from the rows, then the first choice and what follows from it, and so on.

    pairs are those of a trail: literals and the indexes of the rows that forced them; barring is the index of the row
    that bars at its end, or None.
    """

    def __init__(self, rows, choices):
        self.rows = list(rows)
        self.pairs = []
        self.barring = None
        # For each level what has been followed to its end, and, but for the last level, how many pairs there were then.
        self.courses = [Course(list(rows), ())]
        self.ends = []
        self.follow()
        for literal in choices:
            self.choose(literal)

    def follow(self):
        steps, self.barring = self.courses[-1].follow()
        self.pairs.extend(steps)

    def choose(self, literal):
        course = self.whole_course()
        course.give(literal)
        self.ends.append(len(self.pairs))
        self.courses.append(course)
        self.pairs.append((literal, None))
        self.follow()

    def whole_course(self):
        """A course of its own like the last one, with the rows that came when there were more levels.

        These rows had nothing to say at the levels that are left.
        """
        course = self.courses[-1]
        return course.joined(self.rows[len(course.rows):])

    def go_back(self, level):
        if level < len(self.ends):
            del self.pairs[self.ends[level]:]
            del self.ends[level:]
            del self.courses[level + 1:]
            self.barring = None

    def learn(self, row, level):
        """Go back to level, and follow on from there with row behind the others."""
        self.rows.append(row)
        self.go_back(level)
        self.courses[-1] = self.whole_course()
        self.follow()

    def clashes_with(self, literals):
        """Whether following from literals, and no choices, clashes; all choices are gone then."""
        self.go_back(0)
        course = self.whole_course()
        for literal in literals:
            if -literal in course.given:
                return True
            if literal not in course.given:
                course.give(literal)
                _, clash = course.follow()
                if clash is not None:
                    return True
        return False

    def taken(self):
        """The literals of the trail, for the keys of a dict, which is not to be changed."""
        return self.courses[-1].given
