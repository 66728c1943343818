from itertools import combinations_with_replacement

from tests.helper import Case
from tests.test_dominance import LogsTest
from tests.test_judge import kept
from witnesslog.choice import choice, choice_log
from witnesslog.cuts import cuts
from witnesslog.errors import BadLeast, BadPrices
from witnesslog.judge import judged
from witnesslog.meaning import floor, is_proved
from witnesslog.problems import Problem, least_plans, price_of


def told_log(problem, prices, least):
    """choice_log, as the document tells it."""
    n, plain = len(prices), LogsTest()
    literals = list(range(1, n + 1))
    log = [plain.begin(problem, literals)]
    log += [plain.plain_step(problem, literals, i, i + 1) for i in range(n - 1)]
    log += [("follow", (((1, i),), 1)) for i in range(1, least + 1)]
    log.append(("plan", (1,) * least + (0,) * (n - least)))
    last = [("row", 0)]
    for i in range(1, least + 1):
        if prices[i - 1] > 0:
            # The first followed row comes behind the row of the problem and those of the preferences.
            last += [("row", n + i), ("times", prices[i - 1]), ("sum",)]
    return log + [("derive", tuple(last))]


class ChoiceTest(Case):
    def check(self, prices, least):
        problem = choice(prices, least)
        n = len(prices)
        self.assertEqual(problem, Problem(n, [(tuple((1, v) for v in range(1, n + 1)), least)],
                                          (tuple((p, v + 1) for v, p in enumerate(prices) if p), 0)))
        log = choice_log(prices, least)
        self.same(log, told_log(problem, prices, least))
        self.assertEqual(len(log), n + least + 2)
        judge = judged(problem, log)
        self.same(judge.best, sum(prices[:least]))
        self.same((is_proved(judge), floor(judge)), (True, judge.best))
        return problem, log

    def test_by_hand(self):
        problem, log = self.check([1, 3], 1)
        self.assertEqual(problem, Problem(2, [(((1, 1), (1, 2)), 1)], (((1, 1), (3, 2)), 0)))
        self.same(len(log), 5)
        self.assertEqual(choice(prices=(1, 3), least=1), problem)
        self.same(choice_log(prices=(1, 3), least=1), log)

    def test_small(self):
        for n in range(1, 5):
            for prices in combinations_with_replacement((0, 1, 3), n):
                for least in range(n + 1):
                    problem, log = self.check(list(prices), least)
                    self.same(price_of(problem, least_plans(problem)[0]), sum(prices[:least]))
                    if n <= 3:
                        self.assertTrue(all(kept(judge) for judge in cuts(problem, log)))

    def test_long(self):
        self.check([0] * 100 + [999999] * 100, 100)
        self.check(list(range(200)), 0)
        self.check(list(range(5, 205)), 200)

    def test_errors(self):
        for call in (choice, choice_log):
            for prices in (None, 0, {}, "", [], (), [2, 1], [-1], [1000000], [True], [None], ["1"], [0] * 201, [[1]],
                           {1: 1}):
                self.refuses(BadPrices, call, prices, None)
            for least in (None, -1, 3, True, "1", [1], (1,)):
                self.refuses(BadLeast, call, [1, 2], least)
