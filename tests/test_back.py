from tests import helper
from tests.helper import Case
from tests.test_judge import HAND, price_at, some_problem, some_step
from witnesslog.back import led_back, left
from witnesslog.errors import BadFilling, BadJudge, BadStep
from witnesslog.judge import Judge, judged
from witnesslog.problems import Problem


def image_worth(image, at):
    return {"yes": 1, "no": 0}[image] if type(image) is str else helper.worth(image, at)


def told_back(judge, at):
    """led_back, worked off along the log by hand."""
    gone, many = [], judge.problem.many
    reading = Judge(judge.problem)
    for step in judge.log():
        if step[0] == "leave" and len(step) == 4:
            gone.append((reading.core()[step[1]], step[2]))
        reading.step(step)
    for row, witness in gone[::-1]:
        if not helper.holds(row, at):
            at = tuple(image_worth(image, at) for image in witness) + at[len(witness):]
    return at[:many]


class BackTest(Case):
    def behind(self, *steps):
        return judged(Problem(2, [(((1, 1), (1, 2)), 1), (((1, 1),), 1)], ((), 0)), list(steps))

    def test_by_hand(self):
        judge = self.behind(("leave", 1, (1, 2), {}), ("new",), ("leave", 2, ("yes", 2, 3), {}))
        self.same(left(judge), (((((1, 1), (1, 2)), 1), (1, 2)), ((((1, 1),), 1), ("yes", 2, 3))))
        self.same(led_back(judge, (0, 0, 1)), (1, 0))
        self.same(led_back(judge=judge, filling=(1, 1, 0)), (1, 1))
        self.same(left(judge=self.behind()), ())
        self.same(led_back(self.behind(), (0, 0)), (0, 0))

    def test_the_last_one_first(self):
        # The first row to leave comes to hold only by the witness of the second one.
        problem = Problem(2, [(((1, 1), (1, 2)), 1), (((1, 1), (1, -2)), 1)], ((), 0))
        judge = judged(problem, [("leave", 2, ("yes", 2), {}), ("leave", 1, (1, "yes"), {})])
        self.same([led_back(judge, at) for at in helper.all_fillings(2)], [(1, 1), (1, 1), (1, 0), (1, 1)])

    def test_behind_new(self):
        judge = judged(HAND, [("leave", 1, (1, "yes"), {}), ("new",), ("new",)])
        self.same(led_back(judge, (0, 0, 1, 0)), (0, 1))
        self.same(left(judge), ((HAND.rows[0], (1, "yes")),))

    def test_a_row_that_is_known_again(self):
        row = HAND.rows[0]
        judge = judged(HAND, [("leave", 1, (1, "yes"), {}), ("witness", row, ("yes", 2), {}), ("core", (2,)),
                              ("leave", 2, ("yes", 2), {})])
        self.same([led_back(judge, at) for at in helper.all_fillings(2)], [(1, 0), (0, 1), (1, 0), (1, 1)])

    def test_by_all_fillings(self):
        most = 0
        for _ in range(150):
            problem = some_problem(self.rng)
            judge = Judge(problem)
            for _ in range(30):
                step = some_step(self.rng, judge)
                if self.rng.random() < 0.4:
                    step = ("leave", self.rng.choice(list(judge.core()) + [1]), step[2] if len(step) == 4 else (1,), {})
                try:
                    judge.step(step)
                except BadStep:
                    continue
            most = max(most, len(left(judge)))
            core = list(judge.core().values())
            for at in helper.all_fillings(judge.many):
                back = led_back(judge, at)
                self.same(back, told_back(judge, at))
                price = price_at(problem, at)
                if all(helper.holds(row, at) for row in core) and (judge.best is None or price < judge.best):
                    self.assertTrue(all(helper.holds(row, back) for row in problem.rows))
                    self.assertLessEqual(price_at(problem, back), price)
        self.assertGreater(most, 2)

    def test_errors(self):
        judge = Judge(HAND)
        judge.step(("new",))
        for thing in (None, 0, [], HAND, "judge", {}):
            self.refuses(BadJudge, left, thing)
            self.refuses(BadJudge, led_back, thing, None)
        for at in (None, (0, 0), [0, 0, 0], (0, 0, True), (0, 0, 2), {}, (0, 0, 0, 0)):
            self.refuses(BadFilling, led_back, judge, at)
