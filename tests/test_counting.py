from tests import helper
from tests.helper import Case
from tests.test_judge import HAND, kept, some_problem
from tests.test_meaning import EMPTY, NO_JUDGES, walked
from witnesslog.counting import counting
from witnesslog.dominance import preference_steps
from witnesslog.errors import BadId, BadJudge, TooMany
from witnesslog.firsts import likeness_steps
from witnesslog.judge import Judge, judged
from witnesslog.problems import Problem


def but(many, v, image):
    return tuple(image if k == v else k for k in range(1, many + 1))


def told_steps(judge, number):
    """The steps but the two last ones, and the rows in which these end."""
    lot = judge.known()[number][0]
    s, many = len(lot), judge.many
    turned = tuple((1, -l) for _, l in lot)
    steps = []
    for j in range(2, s + 1):
        o = many + j - 1
        steps += [("new",), ("witness", (lot + ((j, -o),), j), but(o, o, "no"), {}),
                  ("witness", (turned + ((s - j + 1, o),), s - j + 1), but(o, o, "yes"), {})]
    own = range(many + 1, many + s)
    return steps, [(lot + tuple((1, -o) for o in own), s), (turned + tuple((1, o) for o in own), s - 1)]


class CountingTest(Case):
    def check(self, judge, number, tried=True):
        """The judge behind the steps, which are held against the document."""
        before = judge.copy()
        steps = counting(judge, number)
        self.assertEqual(judge, before)
        self.same(len(judge), len(before))
        lot = [l for _, l in judge.known()[number][0]]
        wanted, rows = told_steps(judge, number)
        self.same((steps[:-2], len(steps)), (wanted, 3 * len(lot) - 1))
        self.same([(step[0], len(step)) for step in steps[-2:]], [("derive", 2)] * 2)
        for step in steps:
            before.step(step)
            self.assertTrue(not tried or before.many > 7 or kept(before))
        new = sorted(before.derived())[-2:]
        self.same([before.derived()[k] for k in new], rows)
        if before.many <= 10:
            self.check_counts(judge, before, lot)
        return before

    def check_counts(self, judge, behind, lot):
        came = [row for k, row in behind.known().items() if k not in judge.known()]
        for at in helper.where(behind.many, came):
            count = sum(helper.worth(l, at) for l in lot)
            if count > 0:
                self.same(count, 1 + sum(at[judge.many:]))

    def test_by_hand(self):
        judge = self.check(Judge(HAND), 1)
        self.same(list(judge.known().values())[1:], [
            (((1, 1), (1, 2), (2, -3)), 2), (((1, -1), (1, -2), (1, 3)), 1), (((1, 1), (1, 2), (1, -3)), 2),
            (((1, -1), (1, -2), (1, 3)), 1)])
        self.same(len(counting(judge=Judge(HAND), number=1)), 5)
        judge = self.check(Judge(Problem(2, [(((1, -2),), 1)], EMPTY)), 1)
        self.same(list(judge.derived().values()), [(((1, -2),), 1), (((1, 2),), 0)])

    def test_the_row_of_prices(self):
        problem = Problem(3, [(((1, 1), (1, 3)), 1)], (((1, 1), (1, -2), (1, 3)), 4))
        judge = judged(problem, [("plan", (1, 0, 1))])
        self.same(judge.known()[0], (((1, -1), (1, 2), (1, -3)), 1))
        self.check(judge, 0)

    def test_behind_logs_of_every_kind(self):
        done, ordered = 0, 0
        while done < 150:
            judge = walked(self.rng, self.rng.choice((3, 10, 25)), some_problem(self.rng))
            fit = [k for k, row in judge.known().items() if row[0] and row[1] == 1 and {w for w, _ in row[0]} == {1}]
            for number in fit[:2]:
                self.check(judge, number)
                done += 1
                ordered += judge.order() != ((), ())
            for number in list(judge.known()) + [99]:
                if number not in fit:
                    self.refuses(BadId, counting, judge, number)
        self.assertGreater(ordered, 5)

    def test_behind_dominance(self):
        problem = Problem(4, [(tuple((1, v) for v in range(1, 5)), 1)], (tuple((v, v) for v in range(1, 5)), 0))
        self.check(judged(problem, preference_steps(problem, [1, 2, 3, 4])), 1)
        problem = Problem(3, [(((1, 1), (1, 2), (1, 3)), 1)], EMPTY)
        judge = judged(problem, likeness_steps(problem, [(2, 3, 1), (2, 1, 3)]))
        judge = self.check(self.check(judge, 1), 1, False)
        self.same(judge.many, 7)

    def test_again_and_again(self):
        # A lot of which some are new variables that came so.
        judge = self.check(Judge(Problem(3, [(((1, 1), (1, -2), (1, 3)), 1), (((1, -3),), 1)], EMPTY)), 1)
        judge.step(("derive", [("row", 1), ("literal", 5), ("sum",)]))
        self.check(judge, judge.next_id - 1, False)

    def test_of_many(self):
        for s in (1, 2, 30, 100):
            problem = Problem(100, [(tuple((1, v * (-1) ** v) for v in range(1, s + 1)), 1)], EMPTY)
            self.check(Judge(problem), 1, False)

    def test_too_many(self):
        rows = [(((1, 1), (1, 2), (1, 3)), 1), (((1, 4),), 1)]
        self.same(len(counting(Judge(Problem(198, rows, EMPTY)), 1)), 8)
        self.refuses(TooMany, counting, Judge(Problem(199, rows, EMPTY)), 1, most=200)
        self.refuses(TooMany, counting, Judge(Problem(200, rows, EMPTY)), 1, most=200)
        self.same(len(counting(Judge(Problem(200, rows, EMPTY)), 2)), 2)
        self.refuses(BadId, counting, Judge(Problem(200, rows, EMPTY)), 3)

    def test_errors(self):
        for thing in NO_JUDGES:
            self.refuses(BadJudge, counting, thing, None)
        rows = [(((1, 1), (2, 2)), 1), (((1, 1), (1, 2)), 2), ((), 1), ((), 0), (((1, 1), (1, 2)), 0), (((1, 1),), 1)]
        judge = Judge(Problem(2, rows, EMPTY))
        for number in (None, True, 0, 1, 2, 3, 4, 5, 7, -1, "6", [6], (6,), {}):
            self.refuses(BadId, counting, judge, number)
        self.same(len(counting(judge, 6)), 2)
