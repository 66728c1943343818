from tests import helper
from tests.helper import Case
from tests.test_judge import kept
from tests.test_lots import told_lots
from witnesslog.errors import BadCount, BadLoads, BadMost, TooMany
from witnesslog.firsts import first_rows, likeness_steps
from witnesslog.judge import judged
from witnesslog.lorries import lorries, lorry_log, next_exchanges
from witnesslog.problems import Problem


def told_problem(loads, count, most):
    n = len(loads)
    rows = [(tuple((1, (i - 1) * n + j) for i in range(1, count + 1)), 1) for j in range(1, n + 1)]
    for i in range(1, count + 1):
        pairs = tuple((loads[j - 1], -((i - 1) * n + j)) for j in range(1, n + 1))
        rows.append((pairs, max(0, sum(loads) - most)))
    price = tuple((loads[j - 1], (i - 1) * n + j) for i in range(1, count + 1) for j in range(1, n + 1))
    return Problem(count * n, rows, (price, 0))


def told_exchange(n, count, i):
    found = {v: v for v in range(1, count * n + 1)}
    for j in range(1, n + 1):
        one, other = (i - 1) * n + j, i * n + j
        found[one], found[other] = other, one
    return tuple(found[v] for v in sorted(found))


class LorriesTest(Case):
    def check(self, loads, count, most):
        problem = lorries(loads, count, most)
        self.assertEqual(problem, told_problem(loads, count, most))
        exchanges = next_exchanges(loads, count, most)
        self.same(exchanges, [told_exchange(len(loads), count, i) for i in range(1, count)])
        log = lorry_log(loads, count, most)
        self.same(log, likeness_steps(problem, exchanges))
        self.same(len(log), count)
        return problem, exchanges, judged(problem, log)

    def test_by_hand(self):
        problem, exchanges, _ = self.check([3, 2], 2, 4)
        self.assertEqual(problem, Problem(4, [(((1, 1), (1, 3)), 1), (((1, 2), (1, 4)), 1), (((3, -1), (2, -2)), 1),
                                              (((3, -3), (2, -4)), 1)], (((3, 1), (2, 2), (3, 3), (2, 4)), 0)))
        self.same(exchanges, [(3, 4, 1, 2)])
        self.assertEqual(lorries(loads=(3, 2), count=2, most=4), problem)
        self.same(next_exchanges(loads=(3, 2), count=2, most=4), exchanges)
        self.same(lorry_log(loads=(3, 2), count=2, most=4), lorry_log([3, 2], 2, 4))

    def test_one_plan_of_each_lot(self):
        for loads, count in (([1], 1), ([1], 6), ([2, 1], 4), ([1, 1, 1], 3), ([3, 2, 2, 1], 2), ([5, 4, 1, 1], 3)):
            for most in (0, max(loads), sum(loads) - 1, sum(loads), 10 ** 20):
                problem, exchanges, judge = self.check(loads, count, most)
                rows = first_rows(problem.many, exchanges)
                lots = told_lots(problem, exchanges)
                left = [at for lot in lots for at in lot if all(helper.holds(row, at) for row in rows)]
                self.same(left, [lot[0] for lot in lots])
                n = len(loads)
                for at in left:
                    tuples = [at[i * n:(i + 1) * n] for i in range(count)]
                    self.same(tuples, sorted(tuples))
                if problem.many <= 6:
                    self.assertTrue(kept(judge))

    def test_up_to_60_variables(self):
        self.check([99999] * 20, 3, 1)
        self.check([7, 8, 9], 20, 0)
        self.check([1], 20, 0)
        self.check(list(range(1, 21)), 1, 10 ** 9)
        self.check([4] * 6, 10, 12)

    def test_errors(self):
        for call in (lorries, next_exchanges, lorry_log):
            for loads in (None, [], (), [0], [100000], [True], ["1"], 1, {}, {1: 1}, [1] * 21, [[1]], "12"):
                self.refuses(BadLoads, call, loads, None, None)
            for count in (None, 0, 21, True, "1", [1]):
                self.refuses(BadCount, call, [1] * 20, count, None)
            for most in (None, -1, True, "1", [1]):
                self.refuses(BadMost, call, [1] * 20, 20, most)
            self.refuses(TooMany, call, [1] * 20, 4, 0, most=60)
            self.refuses(TooMany, call, [1] * 4, 16, 0, most=60)
