from tests import helper
from tests.helper import Case
from tests.test_rows import BAD_ROWS, ROW
from witnesslog.errors import BadFilling, BadMany, BadNumber, BadPrice, BadProblem, BadRows, TooMany
from witnesslog.problems import Problem, is_plan, least_plans, plans, price_of, prices_to

PRICE = (((3, 1), (2, -2)), -5)


def some_problem(rng, many):
    rows = [helper.some_row(rng, many) for _ in range(rng.randint(0, 3))]
    return Problem(many, rows, (helper.some_row(rng, many)[0], rng.randint(-4, 4)))


class ProblemTest(Case):
    def test_attributes(self):
        rows = [ROW, ((), 0)]
        problem = Problem(2, rows, PRICE)
        rows.append(ROW)
        self.same((problem.many, problem.rows, problem.price), (2, (ROW, ((), 0)), PRICE))
        self.same(len(rows), 3)
        self.same(Problem(many=2, rows=(), price=((), 0)).rows, ())
        self.same(Problem(200, [ROW] * 400, PRICE).rows, (ROW,) * 400)

    def test_equal(self):
        problem = Problem(2, [ROW], PRICE)
        self.assertTrue(problem == Problem(2, (ROW,), PRICE))
        self.assertFalse(problem != Problem(2, (ROW,), PRICE))
        for other in (Problem(3, [ROW], PRICE), Problem(2, [ROW, ROW], PRICE), Problem(2, [], PRICE),
                      Problem(2, [ROW], (PRICE[0], 5)), Problem(2, [ROW], ((), -5))):
            self.assertFalse(problem == other)
            self.assertTrue(problem != other)
        for other in helper.odd_values() + [(2, (ROW,), PRICE)]:
            self.assertFalse(problem == other)
            self.assertFalse(other == problem)

    def test_errors(self):
        for many in (0, -1, 201, 600, True, None, "2"):
            self.refuses(BadMany, Problem, many, None, None)
        for rows in (None, {}, {0: ROW}, 0, ROW, [ROW] * 401, [None], ""):
            self.refuses(BadRows, Problem, 2, rows, None)
        for row in BAD_ROWS:
            self.refuses(BadRows, Problem, 2, [row], None)
        for price in (None, (), [(), 0], ((), 0, 0), ([], 0), ((), None), ((), True), ((), "0"), (((0, 1),), 0),
                      (((1, 3),), 0), (((1, 1), (1, -1)), 0), (((True, 1),), 0), (((-1, 1),), 0), (((1, 1),),)):
            self.refuses(BadPrice, Problem, 2, [ROW], price)
        self.same(Problem(2, [], ((), -7)).price, ((), -7))


class PlansTest(Case):
    def test_by_chance(self):
        for _ in range(300):
            many = self.rng.randint(1, 4)
            problem = some_problem(self.rng, many)
            wanted = helper.where(many, problem.rows)
            prices = {at: problem.price[1] + helper.comes_to(problem.price[0], at) for at in helper.all_fillings(many)}
            self.same(plans(problem), wanted)
            self.same(least_plans(problem),
                      [at for at in wanted if prices[at] == min(prices[other] for other in wanted)])
            for at, price in prices.items():
                self.same(price_of(problem, at), price)
                self.same(is_plan(problem, at), at in wanted)
            number = self.rng.randint(-6, 20)
            row = prices_to(problem, number)
            self.assertTrue(helper.row(many, row))
            self.same(row, helper.normal(many, [(-w, l) for w, l in problem.price[0]], problem.price[1] - number))
            for at, price in prices.items():
                self.same(helper.holds(row, at), price <= number)

    def test_none(self):
        problem = Problem(1, [((), 1)], ((), 0))
        self.same(plans(problem), [])
        self.same(least_plans(problem), [])

    def test_prices_to_by_hand(self):
        problem = Problem(2, [], PRICE)
        self.same(prices_to(problem, -5), (((3, -1), (2, 2)), 5))
        self.same(prices_to(problem, -6), (((3, -1), (2, 2)), 6))
        self.same(prices_to(problem, -3), (((3, -1), (2, 2)), 3))
        self.same(prices_to(problem, 0), (((3, -1), (2, 2)), 0))
        self.same(prices_to(problem=problem, number=9), (((3, -1), (2, 2)), 0))

    def test_is_plan_of_any_value(self):
        problem = Problem(2, [(((1, 1), (1, 2)), 1)], PRICE)
        wanted = helper.where(2, problem.rows)
        for thing in helper.odd_values() + helper.variants((0, 1)) + helper.variants((1, 1)):
            self.same(is_plan(problem, thing), helper.filling(2, thing) and thing in wanted, thing)
        self.same(is_plan(problem=problem, thing=(0, 1)), True)

    def test_errors(self):
        problem = Problem(2, [ROW], PRICE)
        for bad in [None, 0, "", [], (2, (ROW,), PRICE), {}, BadRows("no problem")]:
            self.refuses(BadProblem, price_of, bad, None)
            self.refuses(BadProblem, is_plan, bad, None)
            self.refuses(BadProblem, plans, bad)
            self.refuses(BadProblem, least_plans, bad)
            self.refuses(BadProblem, prices_to, bad, None)
        for filling in (None, [0, 1], (0, True), (0,), (0, 1, 1), (0, 2)):
            self.refuses(BadFilling, price_of, problem, filling)
        for number in (None, True, False, "1", [1], 1.0):
            self.refuses(BadNumber, prices_to, problem, number)
        self.same(price_of(problem=problem, filling=(1, 0)), 0)

    def test_too_many(self):
        wide = Problem(13, [], ((), 0))
        self.refuses(TooMany, plans, wide, most=12)
        self.refuses(TooMany, least_plans, wide, most=12)
        twelve = Problem(12, [(((1, 1),), 1)], (((1, 2),), 0))
        self.same(len(plans(problem=twelve)), 2048)
        self.same(len(least_plans(problem=twelve)), 1024)
        self.same(is_plan(wide, (0,) * 13), True)

    def test_new(self):
        problem = Problem(1, [], ((), 0))
        plans(problem).append(None)
        least_plans(problem).clear()
        self.same(plans(problem), [(0,), (1,)])
        self.same(least_plans(problem), [(0,), (1,)])
