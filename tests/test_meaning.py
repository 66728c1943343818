from tests import helper
from tests.helper import Case
from tests.test_going_back import covers
from tests.test_judge import HAND, ORDER, DOMINATE, kept, price_at, some_problem, some_step
from witnesslog.errors import BadJudge, BadStep, TooMany
from witnesslog.judge import Judge, judged
from witnesslog.meaning import core_fillings, floor, is_kept, is_proved, known_fillings, spared
from witnesslog.problems import Problem

EMPTY = ((), 0)
NO_JUDGES = (None, 0, [], {}, HAND, "judge", True, (HAND,))


def prices_from(problem, p):
    """The opposite of the row of prices to p - 1."""
    pairs, base = problem.price
    turned = tuple((w, -l) for w, l in pairs)
    return helper.opposite((turned, max(0, sum(w for w, _ in pairs) + base - p + 1)))


def told_floor(judge):
    known = judge.known()
    if any(helper.impossible(row) for row in known.values()):
        return judge.best
    pairs, base = judge.problem.price
    found = [p for p in range(base - 3, base + helper.weights((pairs, 0)) + 3)
             if (judge.best is None or p <= judge.best)
             and any(k != 0 and covers(row, prices_from(judge.problem, p)) for k, row in known.items())]
    return max(found + [base])


def walked(rng, count, problem, begin=()):
    """A judge of the problem behind steps by chance, and those that are let by."""
    judge = judged(problem, list(begin))
    for _ in range(count):
        try:
            judge.step(some_step(rng, judge))
        except BadStep:
            pass
    return judge


class MeaningTest(Case):
    def test_by_hand(self):
        judge = judged(HAND, [ORDER, DOMINATE])
        self.same(core_fillings(judge), [(0, 1), (1, 0), (1, 1)])
        self.same(known_fillings(judge), [(0, 1), (1, 1)])
        self.same((is_kept(judge), is_proved(judge), floor(judge)), (True, False, 0))
        judge.step(("plan", (0, 1)))
        self.same((is_kept(judge=judge), is_proved(judge=judge), floor(judge=judge)), (True, True, 0))
        self.same((core_fillings(judge=judge), known_fillings(judge=judge)), ([(0, 1), (1, 0), (1, 1)], []))

    def test_floor_by_hand(self):
        price = (((2, 1), (3, -2)), -7)
        judge = Judge(Problem(3, [(((2, 1), (1, 3)), 2)], price))
        self.same((floor(judge), floor(Judge(Problem(3, [(((2, 1), (2, 3)), 2)], price)))), (-6, -7))
        judge.step(("derive", [("row", 1), ("weakened", 3)]))
        self.same(floor(judge), -6)
        judge.step(("plan", (1, 0, 1)))
        self.same((judge.best, floor(judge)), (-2, -6))
        judge.step(("plan", (1, 1, 0)))
        self.same((judge.best, floor(judge), is_proved(judge)), (-5, -6, False))
        judge.step(("derive", [("row", 1), ("weakened", 3), ("divided", 2), ("times", 2)]))
        self.same((floor(judge), is_proved(judge)), (-5, False))
        judge.step(("derive", [("row", 0), ("row", 3), ("sum",)]))
        self.same((floor(judge), is_proved(judge)), (-5, True))
        # The row 0 alone does not count, and no floor is above best.
        judge = judged(Problem(1, [], (((5, 1),), 0)), [("plan", (1,))])
        self.same((floor(judge), judge.known()[0]), (0, (((5, -1),), 1)))
        judge = judged(Problem(1, [(((9, 1),), 9)], (((9, 1),), 0)), [])
        self.same(floor(judge), 9)

    def test_impossible(self):
        judge = Judge(Problem(1, [(((1, 1),), 1), (((1, -1),), 1)], (((2, 1),), 5)))
        self.same((floor(judge), is_proved(judge)), (6, False))
        judge.step(("follow", ((), 1)))
        self.same((floor(judge), is_proved(judge), is_kept(judge)), (None, True, True))
        judge = judged(Problem(1, [], (((2, 1),), 5)), [("plan", (0,))])
        self.same((floor(judge), is_proved(judge), judge.derived()), (5, True, {}))

    def test_at_every_cut(self):
        proved, floors, without = 0, 0, 0
        for k in range(150):
            problem = some_problem(self.rng)
            if k % 3 == 0:
                rows = list(problem.rows) + [helper.some_row(self.rng, problem.many) for _ in range(3)]
                problem = Problem(problem.many, rows, problem.price)
            prices = [price_at(problem, at) for at in helper.where(problem.many, problem.rows)]
            without += prices == []
            log = walked(self.rng, 25, problem).log()
            judge = Judge(problem)
            for step in [None] + log:
                if step is not None:
                    judge.step(step)
                self.same(core_fillings(judge), helper.where(judge.many, judge.core().values()))
                self.same(known_fillings(judge), helper.where(judge.many, judge.known().values()))
                self.same((is_kept(judge), kept(judge)), (True, True))
                low = floor(judge)
                self.same(low, told_floor(judge))
                self.assertTrue(low is None or all(low <= price for price in prices))
                told = any(helper.impossible(row) for row in judge.known().values())
                self.same(is_proved(judge), told)
                self.assertEqual(low is None, told and judge.best is None)
                if told:
                    self.assertTrue(all(judge.best is not None and judge.best <= price for price in prices))
                    proved += 1
                floors += low is not None and low > problem.price[1]
        self.assertGreater(min(proved, floors, without), 30)

    def test_rows_that_are_spared(self):
        needed, gone = 0, 0
        for _ in range(300):
            judge = walked(self.rng, 25, some_problem(self.rng))
            for k in list(judge.core()) * 2:
                judge.step(("derive", [("row", k)]))
            if told_floor(judge) is None or any(helper.impossible(row) for row in judge.known().values()):
                continue
            names = [k for k in judge.derived() if self.rng.random() < 0.8]
            most = self.rng.choice((1, 2, 999))
            reader, wanted = judge.copy(), []
            for k in names:
                other = reader.copy()
                other.step(("leave", k))
                if len(wanted) < most and told_floor(other) == told_floor(judge):
                    reader, wanted = other, wanted + [k]
            self.same(spared(judge, names, most), wanted)
            needed += most == 999 and len(wanted) < len(names)
            gone += len(wanted)
        self.assertGreater(min(needed, gone), 2)

    def test_what_is_not_kept(self):
        problem = Problem(2, [(((1, 1), (1, 2)), 1)], (((1, 1), (2, 2)), 0))
        judge = Judge(problem)
        # M1: the cheapest plan is left out, and no other filling is as cheap.
        judge.core_rows[2] = (((1, 2),), 1)
        self.same((is_kept(judge), kept(judge)), (False, False))
        judge.best = 1
        self.same((is_kept(judge), kept(judge)), (True, True))
        # M2: what is known is dearer.
        judge = Judge(problem)
        judge.derived_rows[2] = (((1, 2),), 1)
        self.same((is_kept(judge), kept(judge)), (False, False))
        # M2: what is known is as cheap, but later.
        judge = Judge(HAND)
        judge.present_order = ORDER[1]
        judge.derived_rows[2] = (((1, 1),), 1)
        self.same((is_kept(judge), kept(judge)), (False, False))
        judge.derived_rows[2] = (((1, 2),), 1)
        self.same((is_kept(judge), kept(judge)), (True, True))
        # M2: a filling that is not no later than itself serves none.
        judge.present_order = ((1,), (((), 1),))
        self.same((is_kept(judge), kept(judge)), (False, False))
        # M3: a filling that is not led back to a plan, and one that is led to a dearer plan.
        judge = Judge(problem)
        del judge.core_rows[1]
        self.same((is_kept(judge), kept(judge)), (False, False))
        judge.gone.append((problem.rows[0], (1, "yes")))
        self.same((is_kept(judge), kept(judge)), (False, False))
        judge.best = 0
        self.same((is_kept(judge), kept(judge)), (True, True))

    def test_tampered_by_chance(self):
        words = []
        for _ in range(300):
            problem = some_problem(self.rng, 3)
            judge = walked(self.rng, 12, problem)
            row = helper.some_row(self.rng, judge.many, 2)
            kind = self.rng.choice("cdlbg")
            if kind == "c":
                judge.core_rows[99] = row
            if kind == "d":
                judge.derived_rows[99] = row
            if kind == "l" and judge.core_rows:
                del judge.core_rows[list(judge.core_rows)[0]]
            if kind == "b":
                judge.best = self.rng.randint(-3, 9)
            if kind == "g":
                judge.gone.append((row, helper.some_witness(self.rng, judge.many)))
            words.append(is_kept(judge))
            self.same(words[-1], kept(judge))
        self.assertGreater(min(words.count(True), words.count(False)), 50)

    def test_errors(self):
        for call in (core_fillings, known_fillings, is_kept, is_proved, floor):
            for thing in NO_JUDGES:
                self.refuses(BadJudge, call, thing)
        judge = Judge(Problem(12, [], EMPTY))
        self.same((len(core_fillings(judge)), len(known_fillings(judge))), (4096, 4096))
        self.same(is_kept(judge), True)
        judge.step(("new",))
        for call in (core_fillings, known_fillings, is_kept):
            self.refuses(TooMany, call, judge, most=12)
        self.same((is_proved(judge), floor(judge)), (False, 0))
