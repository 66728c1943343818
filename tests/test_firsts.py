from tests import helper
from tests.helper import Case
from tests.test_judge import HAND, kept, price_at
from tests.test_likenesses import BAD_EXCHANGES, NO_PROBLEMS, alike_problem, led_at, told_closed
from tests.test_lots import told_lot, told_lots
from tests.test_meaning import EMPTY
from tests.test_rows import BAD_MANYS
from witnesslog.errors import BadExchange, BadExchanges, BadFilling, BadMany, BadProblem, TooMany
from witnesslog.firsts import first_row, first_rows, firsts, likeness_steps, to_first
from witnesslog.judge import Judge, judged
from witnesslog.likenesses import closed, likenesses
from witnesslog.orders import lexicographic, papers_by_sums
from witnesslog.problems import Problem

TURN = (2, 3, 1)
FREE = Problem(3, [], EMPTY)
STRICT = {("strict",): (("row", -1), ("row", -3), ("sum",))}


def told_row(exchange):
    many = len(exchange)
    sums = [(2 ** (many - v), exchange[v - 1]) for v in range(1, many + 1)]
    return helper.normal(many, sums + [(-2 ** (many - v), v) for v in range(1, many + 1)], 0)


class FirstsTest(Case):
    def test_by_hand(self):
        # (0, 1, 0) is led to (1, 0, 0), (0, 0, 1) to (0, 1, 0): the first row holds at both.
        row = first_row(3, TURN)
        self.same([at for at in helper.all_fillings(3) if helper.holds(row, at)],
                  [(0, 0, 0), (0, 0, 1), (0, 1, 0), (0, 1, 1), (1, 1, 1)])
        self.same(firsts(FREE, [TURN]), [(0, 0, 0), (0, 0, 1), (0, 1, 0), (0, 1, 1), (1, 1, 1)])
        self.same(closed(3, [TURN]), [(1, 2, 3), TURN, (3, 1, 2)])
        both = firsts(problem=FREE, exchanges=[TURN, (3, 1, 2)])
        self.same(both, [(0, 0, 0), (0, 0, 1), (0, 1, 1), (1, 1, 1)])
        self.same(first_row(many=2, exchange=(2, 1)), (((1, -1), (1, 2)), 1))
        self.same(first_row(1, (-1,)), (((2, -1),), 1))
        self.same(first_row(2, (1, 2)), ((), 0))
        self.same(first_rows(many=2, exchanges=[(2, 1), (1, 2), (2, 1)]), [(((1, -1), (1, 2)), 1)])
        self.same(to_first(3, [TURN], (0, 1, 0)), (3, 1, 2))
        self.same(to_first(many=3, exchanges=[TURN], filling=(0, 0, 1)), (1, 2, 3))
        self.same(to_first(2, [(2, 1)], (1, 1)), (1, 2))

    def test_first_rows(self):
        for _ in range(300):
            many = self.rng.randint(1, 5)
            exchanges = [helper.some_exchange(self.rng, many) for _ in range(self.rng.randint(0, 5))]
            for exchange in exchanges:
                row = first_row(many, exchange)
                self.same(row, told_row(exchange))
                for at in helper.all_fillings(many):
                    self.same(helper.holds(row, at), at <= led_at(exchange, at))
            wanted = sorted({told_row(exchange) for exchange in exchanges if told_row(exchange)[1] > 0})
            self.same(first_rows(many, exchanges * 2), wanted)

    def test_firsts(self):
        closed_ones, open_ones, fewer = 0, 0, 0
        for _ in range(300):
            problem, exchanges = alike_problem(self.rng)
            many = problem.many
            plans = helper.where(many, problem.rows)
            group = told_closed(many, exchanges)
            for chosen in (exchanges, group, group[::2]):
                found = firsts(problem, chosen)
                self.same(found, [at for at in plans if all(at <= led_at(exchange, at) for exchange in chosen)])
                first = [lot[0] for lot in told_lots(problem, chosen)]
                self.assertTrue(set(first) <= set(found))
                prices = {price_at(problem, at) for at in plans}
                self.assertEqual({price_at(problem, at) for at in found}, prices)
                if chosen is group:
                    self.same(found, first)
                    closed_ones += len(group) > 1
                open_ones += found != first
            fewer += len(firsts(problem, group)) < len(plans)
            for at in helper.all_fillings(many):
                exchange = to_first(many, exchanges, at)
                lot = told_lot(many, exchanges, at)
                self.same(exchange, [one for one in group if led_at(one, at) == lot[0]][0])
        self.assertGreater(min(closed_ones, open_ones, fewer), 20)

    def test_too_many(self):
        self.same(first_row(60, tuple(range(2, 61)) + (1,))[0][0], (2 ** 59 - 1, -1))
        wide = tuple(range(1, 62))
        self.refuses(TooMany, first_row, 61, wide, most=60)
        self.refuses(TooMany, first_rows, 61, [wide], most=60)
        self.refuses(TooMany, likeness_steps, Problem(61, [], EMPTY), [wide], most=60)
        self.same(len(likeness_steps(Problem(60, [], EMPTY), [wide[:60]])), 1)
        self.refuses(TooMany, firsts, Problem(13, [], EMPTY), [], most=12)
        both = [(2, 1, 3, 4, 5, 6), (2, 3, 4, 5, 6, 1)]
        self.refuses(TooMany, to_first, 6, both, (0, 0, 0, 1, 1, 1), most=400)
        self.same(firsts(Problem(6, [], EMPTY), both),
                  [at for at in helper.all_fillings(6) if all(at <= led_at(one, at) for one in both)])

    def test_errors(self):
        for many in BAD_MANYS:
            self.refuses(BadMany, first_row, many, None)
            self.refuses(BadMany, first_rows, many, None)
            self.refuses(BadMany, to_first, many, None, None)
        for thing in (None, [2, 1], (1,), (1, 1), (True, 2), {}, "12", ("yes", 1)):
            self.refuses(BadExchange, first_row, 2, thing)
        self.refuses(BadExchange, first_row, 61, (1, 2))
        for thing in BAD_EXCHANGES:
            self.refuses(BadExchanges, first_rows, 2, thing)
            self.refuses(BadExchanges, to_first, 2, thing, None)
            self.refuses(BadExchanges, firsts, HAND, thing)
            self.refuses(BadExchanges, likeness_steps, HAND, thing)
        self.refuses(BadExchanges, first_rows, 61, None)
        self.refuses(BadExchanges, firsts, HAND, [(-1, 2)])
        self.refuses(BadExchanges, likeness_steps, HAND, [(-1, 2)])
        self.refuses(BadExchanges, likeness_steps, Problem(61, [], EMPTY), None)
        for at in (None, (0,), [0, 0], (0, True), (0, 2), "00"):
            self.refuses(BadFilling, to_first, 2, [(2, 1)], at)
        for thing in NO_PROBLEMS:
            self.refuses(BadProblem, firsts, thing, None)
            self.refuses(BadProblem, likeness_steps, thing, None)


class LikenessStepsTest(Case):
    def told(self, problem, exchanges):
        order = lexicographic(problem.many, list(range(1, problem.many + 1)))
        steps = [("order", order, papers_by_sums(problem.many, order))]
        return steps + [("dominate", told_row(exchange), exchange, STRICT) for exchange in exchanges
                        if told_row(exchange)[1] > 0]

    def test_by_hand(self):
        self.same(likeness_steps(problem=HAND, exchanges=[(2, 1), (1, 2), (2, 1)]), self.told(HAND, [(2, 1), (2, 1)]))

    def test_let_by_whatever_they_are(self):
        steps = 0
        for k in range(200):
            problem, exchanges = alike_problem(self.rng, 3 if k % 2 else 4)
            group = told_closed(problem.many, exchanges)
            chosen = [self.rng.choice(group) for _ in range(self.rng.randint(0, 5))]
            log = likeness_steps(problem, chosen)
            self.same(log, self.told(problem, chosen))
            judge = Judge(problem)
            for step in log:
                judge.step(step)
                self.assertTrue(kept(judge))
            steps += len(log) - 1
            if k % 4 == 0:
                self.behind_others(problem, log)
        self.assertGreater(steps, 100)

    def behind_others(self, problem, log):
        """By a judge that has derived rows gone and core the problem's rows, by other ids, too."""
        judge = Judge(problem)
        judge.step(("derive", [("literal", 1)]))
        judge.step(("leave", len(problem.rows) + 1))
        if problem.rows:
            judge.step(("derive", [("row", 1)]))
            judge.step(("core", (len(problem.rows) + 2,)))
            judge.step(("leave", 1, tuple(range(1, problem.many + 1)), {}))
        plans = [at for at in helper.where(problem.many, problem.rows)]
        if plans:
            judge.step(("plan", plans[-1]))
        for step in log:
            judge.step(step)
            self.assertTrue(kept(judge))

    def test_all_likenesses_of_more_variables(self):
        problem = Problem(5, [(tuple((1, v) for v in range(1, 6)), 2)], (tuple((3, v) for v in range(1, 6)), 0))
        log = likeness_steps(problem, likenesses(problem))
        judge = judged(problem, log)
        self.same((len(log), kept(judge)), (120, True))
        self.same([at for at in helper.where(5, problem.rows) if all(
            helper.holds(row, at) for row in judge.known().values())],
            [(0,) * (5 - k) + (1,) * k for k in range(2, 6)])
