from tests import helper
from tests.helper import Case
from tests.test_judge import HAND, price_at
from tests.test_likenesses import NO_PROBLEMS
from tests.test_meaning import EMPTY
from tests.test_seeking import clashing_problem, log_bars, some_guide, tight_problem
from witnesslog.cores import guarded, guarded_log, is_core, tight_core
from witnesslog.errors import BadGroups, BadGuide, BadLot, BadProblem
from witnesslog.judge import judged
from witnesslog.meaning import floor
from witnesslog.problems import Problem, least_plans, price_of

BAD_LOTS = (None, [], [1], (0,), (3,), (1, -1), (1, 1), (True,), ("1",), {}, 1)


def right_plan(problem, literals, at):
    return (helper.filling(problem.many, at) and all(helper.holds(row, at) for row in problem.rows)
            and all(helper.worth(l, at) == 1 for l in literals))


def right_core(problem, assumed, thing):
    """is_core, in plain words."""
    if type(thing) is not tuple or not thing or type(thing[0]) is not str:
        return False
    if thing[0] == "plan":
        return len(thing) == 2 and right_plan(problem, assumed, thing[1])
    if thing[0] != "core" or len(thing) != 4:
        return False
    word, lot, plans, log = thing
    if type(lot) is not tuple or repr(lot) != repr(tuple(l for l in assumed if l in lot)) or type(plans) is not dict:
        return False
    if any(type(l) is not int for l in plans) or sorted(plans) != sorted(lot):
        return False
    if not all(right_plan(problem, [k for k in lot if k != l], plans[l]) for l in lot):
        return False
    return log_bars(problem, lot, log)


class CoreTest(Case):
    def check(self, problem, assumed, guide, plans):
        found = tight_core(problem, assumed, guide)
        self.assertTrue(right_core(problem, assumed, found))
        self.same(is_core(problem, assumed, found), True)
        right = [at for at in plans if all(helper.worth(l, at) == 1 for l in assumed)]
        self.same(found[0], "plan" if right else "core")
        if not right:
            word, lot, told, log = found
            self.same((type(lot), type(told), type(log)), (tuple, dict, list))
            self.same(list(told), sorted(told))
            self.assertFalse(any(all(helper.worth(l, at) == 1 for l in lot) for at in plans))
        return found

    def test_by_hand(self):
        self.same(tight_core(HAND, (-1,), []), ("plan", (0, 1)))
        word, lot, plans, log = tight_core(problem=HAND, assumed=(-1, -2), guide=[1])
        self.same((word, lot, sorted(plans)), ("core", (-1, -2), [-2, -1]))
        self.same((plans[-1][1], plans[-2][0]), (0, 0))
        word, lot, plans, log = tight_core(Problem(2, [((), 1)], EMPTY), (1,), [])
        self.same((word, lot, plans), ("core", (), {}))

    def test_for_any(self):
        words, smaller = [], 0
        for k in range(200):
            problem = tight_problem(self.rng) if k % 3 else clashing_problem(self.rng, 8, self.rng.randint(10, 40))
            plans = helper.where(problem.many, problem.rows)
            for _ in range(2):
                assumed = tuple(helper.some_literals(self.rng, problem.many))
                found = self.check(problem, assumed, some_guide(self.rng, problem.many, 20), plans)
                words.append(found[0])
                smaller += found[0] == "core" and len(found[1]) < len(assumed)
        self.assertGreater(min(words.count("plan"), words.count("core"), smaller), 50)

    def test_lots_of_several(self):
        # Any two of them go together, but not all: none can be left out.
        rows = [(tuple((1, -v) for v in range(1, 7)), 1), (((1, 7),), 1)]
        problem = Problem(8, rows, EMPTY)
        plans = helper.where(8, rows)
        for guide in ([], [8, "restart", ("forget", 3), -7]):
            found = self.check(problem, (8, 1, 2, 3, 4, 5, 6), guide, plans)
            self.same(found[1], (1, 2, 3, 4, 5, 6))
            self.same(self.check(problem, (1, 2, 3, -7, 4, 5, 6), guide, plans)[1], (-7,))

    def test_each_wrong_part(self):
        problem = Problem(3, [(((1, 1), (1, 2)), 1)], EMPTY)
        assumed = (-2, 3, -1)
        for found in (tight_core(problem, assumed, []), tight_core(problem, (3, -1), [])):
            for thing in helper.variants(found) + [found[:-1] + (tuple(found[-1]),)]:
                self.same(is_core(problem, assumed, thing), right_core(problem, assumed, thing), thing)
        step = ("follow", (((1, 1), (1, 2)), 1))
        plans = {-1: (1, 0, 1), -2: (0, 1, 1)}
        for thing, right in ((("core", (-2, -1), plans, [step]), True), (("core", (-1, -2), plans, [step]), False),
                             (("core", (-2, -1), {**plans, 3: (1, 1, 1)}, [step]), False),
                             (("core", (-2, -1), {-1: (0, 1, 1), -2: (0, 1, 1)}, [step]), False),
                             (("core", (-2, -1), {-1: (1, 0, 1)}, [step]), False),
                             (("core", (-2, -1), plans, [step, ("leave", 2)]), False),
                             (("core", (-2, -1), {-1: (1, False, 1), -2: (0, 1, 1)}, [step]), False),
                             (("core", (-2, 3, -1), {**plans, 3: (1, 1, 0)}, [step]), False)):
            self.same(is_core(problem, assumed, thing), right, thing)
        problem = Problem(2, [(((1, -1),), 1)], EMPTY)
        log = [("follow", (((1, -1),), 1))]
        self.same(is_core(problem, (1,), ("core", (1,), {1: (0, 0)}, log)), True)
        self.same(is_core(problem, (1,), ("core", (1,), {True: (0, 0)}, log)), False)
        self.same(is_core(problem, (1,), ("core", (True,), {1: (0, 0)}, log)), False)

    def test_any_value(self):
        for thing in helper.odd_values():
            self.same(is_core(HAND, (1,), thing), False)
            for made in (("plan", thing), ("core", thing, {}, []), ("core", (), thing, []), ("core", (), {}, thing),
                         ("core", (1,), {1: thing}, []), (thing, (1, 0))):
                self.same(is_core(HAND, (1,), made), right_core(HAND, (1,), made), made)

    def test_errors(self):
        for thing in NO_PROBLEMS:
            self.refuses(BadProblem, tight_core, thing, None, None)
            self.refuses(BadProblem, is_core, thing, None, None)
        for lot in BAD_LOTS:
            self.refuses(BadLot, tight_core, HAND, lot, None)
            self.refuses(BadLot, is_core, HAND, lot, None)
        for guide in (None, [0], "restart"):
            self.refuses(BadGuide, tight_core, HAND, (), guide)


class GuardedTest(Case):
    def check(self, groups):
        problem = guarded(groups)
        numbers = [weight for group in groups for weight in group]
        rows, begin = [], 1
        for group in groups:
            end = begin + len(group)
            rows += [(((1, v), (1, w)), 1) for v in range(begin, end) for w in range(v + 1, end)]
            begin = end
        price = (tuple((weight, k + 1) for k, weight in enumerate(numbers)), 0)
        self.assertEqual(problem, Problem(len(numbers), rows, price))
        log = guarded_log(groups)
        self.assertLessEqual(len(log), sum(len(set(group)) for group in groups) + 2)
        self.same([step[0] for step in log].count("plan"), 1)
        self.same(log[-1][0], "plan")
        judge = judged(problem, log)
        least = sum(numbers) - sum(max(group) for group in groups)
        self.same((judge.best, floor(judge), price_of(problem, log[-1][1])), (least, least, least))
        return problem, least

    def test_by_hand(self):
        problem, _ = self.check([[3, 5], [2, 2, 1]])
        self.assertEqual(problem, Problem(5, [(((1, 1), (1, 2)), 1), (((1, 3), (1, 4)), 1), (((1, 3), (1, 5)), 1),
                                              (((1, 4), (1, 5)), 1)],
                                          (((3, 1), (5, 2), (2, 3), (2, 4), (1, 5)), 0)))
        self.assertEqual(guarded(groups=((3, 5), (2, 2, 1))), problem)
        self.same(guarded_log(groups=((3, 5), (2, 2, 1))), guarded_log([[3, 5], [2, 2, 1]]))

    def test_drawn(self):
        for _ in range(120):
            groups = [[self.rng.randint(1, self.rng.choice((1, 3, 99))) for _ in range(self.rng.randint(2, 5))]
                      for _ in range(self.rng.randint(1, 2))]
            problem, least = self.check(groups)
            self.same(price_at(problem, least_plans(problem)[0]), least)

    def test_great(self):
        self.check([[7] * 25])
        self.check([[999999999] * 25])
        self.check([list(range(1, 26))])
        self.check([list(range(999999999, 999999974, -1))])
        self.check([[1, 2, 3, 4, 5, 6]] * 20)
        # 300, and 10 times 10 pairs.
        self.check([list(range(1, 26))] + [[9, 8, 7, 7, 7]] * 10)
        self.check([[5, 5, 6]] * 20)

    def test_errors(self):
        for call in (guarded, guarded_log):
            for groups in (None, 0, {}, "", [], (), [[1]], [[1, 0]], [[1, 10 ** 9]], [[1, True]], [[1, "1"]], [1, 2],
                           [[1] * 26], [[1, 2]] * 21, [{1: 1, 2: 2}], [[1] * 25, [1] * 15], ["12"], [[1, None]],
                           [[1] * 25] + [[1] * 5] * 10 + [[1, 1]], [[1, 2], []]):
                self.refuses(BadGroups, call, groups)
