from tests import helper
from tests.helper import Case
from tests.test_going_back import covers
from tests.test_judge import HAND, price_at, some_problem
from tests.test_likenesses import NO_PROBLEMS
from tests.test_meaning import EMPTY, prices_from
from tests.test_seeking import clashing_problem, judge_behind, some_guide, tight_problem
from witnesslog.choice import choice
from witnesslog.cores import guarded
from witnesslog.errors import BadGuide, BadLog, BadProblem, BadWays, TooMany
from witnesslog.judge import Judge, is_log, judged
from witnesslog.least import is_least, least, moments
from witnesslog.lorries import lorries, lorry_log
from witnesslog.pigeons import pigeons
from witnesslog.problems import Problem

BAD_WAYS = (None, 0, {}, "above", "", ["Above"], [None], [1], ["above", True], ["below"] * 401, [["above"]],
            {1: "above"})
TWO = ["above", "below"]


def some_ways(rng, most=6):
    return [rng.choice(TWO) for _ in range(rng.randint(0, most))]


def low_of(judge):
    """The floor, in plain words; what covers the row for a price covers those for lower ones."""
    if any(helper.impossible(row) for row in judge.known().values()):
        return judge.best
    pairs, base = judge.problem.price
    rows = [row for k, row in judge.known().items() if k != 0]
    low, high = base, base + helper.weights((pairs, 0)) + 2
    if judge.best is not None:
        high = judge.best + 1
    while high - low > 1:
        middle = (low + high) // 2
        if any(covers(row, prices_from(judge.problem, middle)) for row in rows):
            low = middle
        else:
            high = middle
    return low


def right_least(problem, thing):
    """is_least, in plain words."""
    if type(thing) is not tuple or not thing or type(thing[0]) is not str or type(thing[-1]) not in (list, tuple):
        return False
    judge, _ = judge_behind(problem, thing[-1])
    if judge is None:
        return False
    if thing[0] == "none":
        return len(thing) == 2 and judge.best is None and any(helper.impossible(r) for r in judge.known().values())
    if thing[0] != "least" or len(thing) != 4 or not helper.number(thing[1]):
        return False
    _, price, at, _ = thing
    if not helper.filling(problem.many, at) or not all(helper.holds(row, at) for row in problem.rows):
        return False
    return price == price_at(problem, at) == judge.best == low_of(judge)


class LeastCase(Case):
    def check_least(self, problem, found, prices):
        """What least, go_on or relay told, held against the prices of all plans."""
        self.assertTrue(right_least(problem, found))
        self.same(is_least(problem, found), True)
        self.same(found[0], "least" if prices else "none")
        if prices:
            self.same(found[1], min(prices))
        self.assertIs(type(found[-1]), list)

    def check_moments(self, problem, log, prices):
        """The moments of a log of least."""
        found = moments(problem, log)
        judge = Judge(problem)
        wanted = [(low_of(judge), judge.best)]
        for step in log:
            judge.step(step)
            wanted.append((low_of(judge), judge.best))
        self.same(found, wanted)
        for (low, best), (later, lesser) in zip(found, found[1:]):
            self.assertTrue(later is None or low <= later)
            self.assertTrue(best is None or lesser <= best)
        for low, best in found:
            self.assertTrue(low is None or all(low <= price for price in prices))
            self.assertTrue(best is None or best >= min(prices))
        if prices:
            self.same(found[-1], (min(prices), min(prices)))


class LeastTest(LeastCase):
    def test_by_hand(self):
        problem = Problem(3, [(((1, 1), (1, 2), (1, 3)), 2)], (((2, 1), (3, 2), (5, 3)), -4))
        for ways in ([], ["above"], ["below"] * 3, TWO * 200, ["above"] * 400):
            word, price, at, log = least(problem, ways, [])
            self.same((word, price, at), ("least", 1, (1, 1, 0)))
            self.same(("plan" in [step[0] for step in log], is_least(problem, (word, price, at, log))), (True, True))
        self.same(least(problem=problem, ways=("below",), guide=()), least(problem, ["below"], []))
        found = least(Problem(1, [(((1, 1),), 1), (((1, -1),), 1)], EMPTY), [], [])
        self.same((found[0], len(found)), ("none", 2))
        self.same(least(Problem(2, [((), 1)], EMPTY), ["above"], [1]), ("none", []))
        # Without terms the first plan is of the least price.
        self.same(least(HAND, [], [1, 2]), ("least", 0, (1, 1), [("plan", (1, 1))]))

    def test_rounds_of_the_kinds_told(self):
        problem = Problem(4, [(((1, 1), (1, 2), (1, 3), (1, 4)), 2)], (((4, 1), (3, 2), (2, 3), (1, 4)), 0))
        # From above no new variables come, and each plan is cheaper than the one ahead of it.
        for guide in ([], [1, 2], [1, "restart", 2, 3]):
            log = least(problem, ["above"] * 400, guide)[-1]
            self.same(("new",) in log, False)
            self.same(least(problem, ["above"] * 400, guide)[1], 3)
        first = least(problem, ["above"] * 400, [1, 2])[-1]
        self.same([step for step in first if step[0] == "plan"][0], ("plan", (1, 1, 0, 0)))
        # From below the one plan that comes is of the least price; new variables come ahead of it.
        log = least(problem, [], [1, 2])[-1]
        self.same([step[1] for step in log if step[0] == "plan"], [(0, 0, 1, 1)])
        self.assertLess(log.index(("new",)), log.index(("plan", (0, 0, 1, 1))))
        # One round from above, and what comes behind it is from below.
        for ways in (["above"], ["above", "below"]):
            log = least(problem, ways, [1, 2])[-1]
            self.same([step[1] for step in log if step[0] == "plan"][0], (1, 1, 0, 0))
            self.assertLess(log.index(("plan", (1, 1, 0, 0))), log.index(("new",)))
        log = least(problem, ["below", "above", "above"], [1, 2])[-1]
        self.assertLess(log.index(("new",)), [step[0] for step in log].index("plan"))

    def test_floors_of_rounds_from_below(self):
        # The price of each round stands in the log, also where the last variable is in the rest.
        for price, floors in (((((2, 1), (3, 2), (5, 3)), -4), [-2, -1, 1]),
                              ((((5, 1), (3, 2), (2, 3)), 0), [2, 3, 5])):
            problem = Problem(3, [(((1, 1), (1, 2), (1, 3)), 2)], price)
            log = least(problem, [], [])[-1]
            found = [low for low, _ in moments(problem, log)]
            self.same(sorted(set(found)), floors)

    def test_for_any_ways_and_guide(self):
        words, rounds = [], 0
        for k in range(180):
            problem = tight_problem(self.rng) if k % 3 else clashing_problem(self.rng, 7, self.rng.randint(5, 20))
            prices = [price_at(problem, at) for at in helper.where(problem.many, problem.rows)]
            for ways in ([], ["above"] * 9, some_ways(self.rng), TWO * 9):
                found = least(problem, ways, some_guide(self.rng, problem.many, self.rng.choice((0, 5, 60))))
                self.check_least(problem, found, prices)
                self.check_moments(problem, found[-1], prices)
                words.append(found[0])
                rounds += ("new",) in found[-1]
        self.assertGreater(min(words.count("least"), words.count("none"), rounds), 60)

    def test_prices(self):
        for _ in range(100):
            problem = tight_problem(self.rng, 5)
            for price in (((), -7), (tuple((10 ** 9 - 1 - v, v * (-1) ** v) for v in range(1, problem.many + 1)), 0),
                          (problem.price[0], -10 ** 29), (((1, 1),), 10 ** 29),
                          (tuple((self.rng.randint(1, 2), -v) for v in range(1, problem.many + 1)), -3)):
                other = Problem(problem.many, problem.rows, price)
                prices = [price_at(other, at) for at in helper.where(other.many, other.rows)]
                found = least(other, some_ways(self.rng), some_guide(self.rng, other.many, 5))
                self.check_least(other, found, prices)
                self.check_moments(other, found[-1], prices)

    def test_new_variables_that_would_be_too_many(self):
        for many in (197, 198, 199, 200):
            rows = [(((1, 1), (1, 2), (1, 3)), 1), (((1, 1), (1, -2)), 1), (((1, -1), (1, 2), (1, 4)), 1)]
            problem = Problem(many, rows, (((5, 1), (4, 2), (6, 3), (3, 4)), 0))
            for ways in ([], ["below", "above"], ["above"]):
                found = least(problem, ways, [])
                self.assertTrue(right_least(problem, found))
                self.same(found[1], 6)
                self.assertLessEqual(judged(problem, found[-1]).many, 200)

    def test_families(self):
        for groups in ([[3, 1, 2], [5, 5, 5], [9, 1]], [[7] * 8], [list(range(1, 13))]):
            problem = guarded(groups)
            wanted = sum(map(sum, groups)) - sum(map(max, groups))
            for ways in ([], ["above"] * 400, TWO * 20):
                found = least(problem, ways, [])
                self.same((found[1], right_least(problem, found)), (wanted, True))
        problem = choice([1, 2, 2, 4, 8, 9, 9, 10, 12, 15], 4)
        for ways in ([], ["above"] * 400, TWO * 20):
            self.same(least(problem, ways, [])[1], 9)
        problem = lorries([5, 4, 3, 2, 2], 3, 6)
        for ways in ([], ["above"] * 400):
            self.same(least(problem, ways, [1, -2, "restart"])[1], 16)
        self.same(least(pigeons(3)[0], [], [])[0], "none")
        self.same(is_log(problem, lorry_log([5, 4, 3, 2, 2], 3, 6)), True)

    def test_each_wrong_part(self):
        problem = Problem(2, [(((1, 1), (1, 2)), 1)], (((1, 1), (2, 2)), 3))
        none = Problem(2, [(((1, 1),), 1), (((1, -1), (1, 2)), 1), (((1, -2),), 1)], EMPTY)
        for one, ways in ((problem, []), (problem, ["above"]), (none, [])):
            found = least(one, ways, [])
            for thing in helper.variants(found) + [found[:-1] + (tuple(found[-1]),)]:
                self.same(is_least(one, thing), right_least(one, thing), thing)
        word, price, at, log = least(problem, [], [])
        other = least(problem, ["above"], [-1])[-1]
        for thing in (("least", 4, (1, 0), other), ("least", 4, (1, 1), log), ("least", 5, (0, 1), log), ("none", log),
                      ("least", 4, (1, 0), log[:-1]), ("least", 4, (1, 0), []), ("least", True, (1, 0), log),
                      ("none", [("plan", (1, 0))]), ("least", 5, (0, 1), [("plan", (0, 1))])):
            self.same(is_least(problem, thing), right_least(problem, thing), thing)

    def test_any_value(self):
        for thing in helper.odd_values():
            self.same(is_least(HAND, thing), False)
            for made in (("none", thing), ("least", 0, thing, []), ("least", thing, (1, 0), [("plan", (1, 0))]),
                         ("least", 0, (1, 0), thing), (thing, []), ("least", 0, (1, 0), [thing])):
                self.same(is_least(HAND, made), right_least(HAND, made), made)

    def test_errors(self):
        for thing in NO_PROBLEMS:
            self.refuses(BadProblem, least, thing, None, None)
            self.refuses(BadProblem, is_least, thing, None)
            self.refuses(BadProblem, moments, thing, None)
        great = Problem(2, HAND.rows, (((10 ** 9, 1),), 0))
        for ways in BAD_WAYS:
            self.refuses(BadWays, least, great, ways, None)
        for guide in (None, {}, [0], "restart", [True], [201]):
            self.refuses(BadGuide, least, great, [], guide)
        self.refuses(TooMany, least, great, [], [], most=999999999)
        self.refuses(TooMany, least, Problem(2, [], (((1, 1), (10 ** 30 - 1, -2)), 0)), ["above"], [1], most=999999999)
        self.same(least(Problem(2, HAND.rows, (((999999999, 1), (999999999, 2)), 0)), [], [])[1], 999999999)
        self.same(len(least(HAND, ["above"] * 400, [1] * 400)), 4)
        self.same(is_least(great, ("least", 0, (0, 1), [("plan", (0, 1))])), True)

    def test_moments(self):
        problem = Problem(2, [(((1, 1), (1, 2)), 1)], (((1, 1), (2, 2)), 3))
        log = [("plan", (0, 1)), ("derive", [("row", 1)]), ("leave", 2), ("plan", (1, 0))]
        self.same(moments(problem, []), [(4, None)])
        self.same(moments(problem=problem, log=log), [(4, None), (4, 5), (4, 5), (4, 5), (4, 4)])
        for log, index in ((None, 0), ({}, 0), ("", 0), ([None], 0), ([("new",), ("leave", 1)], 1)):
            self.refuses(BadLog, moments, problem, log, index=index)
        for _ in range(50):
            one = some_problem(self.rng)
            found = least(one, [], [])[-1]
            self.same(len(moments(one, tuple(found))), len(found) + 1)
